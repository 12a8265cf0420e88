/- The great test of FnNumbers, walked in the case that u.Code is 0, p.Code not 0, w.Code not 0: it comes out false, and only new memory is made. -/
import Derived.Test.YtbionobcbbmbjabNumRegBase
namespace Go.Proofs.Ytbionobcbbmbjab
open Go.RowKit
open Go.BigFrame
set_option linter.unusedVariables false
set_option linter.unusedSimpArgs false

set_option maxRecDepth 1000000 in
set_option maxHeartbeats 8000000 in
theorem numReg100 (Q0 : Exit → Act → World → Prop) (a bd bl bx bs au ap aw : Option Addr) (zl cap kd kl kx ks ku kp kw xl B4 B6 B8 : Nat) (ds ls ss us ps ws : List Int) (n p cu cp cw cs vs : Int) (w8 : World)
    (hRd : Row .u8 w8 bd ds) (hRu : Row .i64 w8 au us) (hRl : Row .i64 w8 bl ls) (hRp : Row .u8 w8 ap ps) (hRw : Row .u8 w8 aw ws) (hRs : Row .u8 w8 bs ss) (hdl : ds.length ≤ 1099511627776) (hll : ls.length ≤ 1099511627776)
    (hS0 : w8.cell? ⟨B4, 0, none⟩ = some (.int .i64 cu) ∧ w8.cell? ⟨B4, 1, none⟩ = some (.slice au us.length ku) ∧ w8.cell? ⟨B6, 0, none⟩ = some (.int .i64 cp) ∧ w8.cell? ⟨B6, 1, none⟩ = some (.slice ap ps.length kp) ∧ w8.cell? ⟨B8, 0, none⟩ = some (.int .i64 cw) ∧ w8.cell? ⟨B8, 1, none⟩ = some (.slice aw ws.length kw))
    (q20 : ∀ w, Row .u8 w bd ds → Calls Try.prog 17 #[.slice bd ds.length kd] w fun e w' => ∃ b c, e = .returned (.agg #[.int .i64 cu, .slice b us.length c]) ∧ w'.ownsRow w.heap.size 2 1 (.slice b us.length c) us.length (us.map (Value.int .i64)) ∧ Below w.heap.size w w')
    (q15 : ∀ w, Row .i64 w au us → cu = 0 → Calls Try.prog 12 #[.slice au us.length ku] w fun e w' => ∃ b c, e = .returned (.agg #[.int .i64 0, .slice b ds.length c]) ∧ w'.ownsRow w.heap.size 5 1 (.slice b ds.length c) ds.length (ds.map (Value.int .u8)) ∧ Below w.heap.size w w')
    (q22 : ∀ w, Row .i64 w bl ls → Calls Try.prog 19 #[.slice bl ls.length kl] w fun e w' => ∃ b c, e = .returned (.agg #[.int .i64 cp, .slice b ps.length c]) ∧ w'.ownsRow w.heap.size 5 1 (.slice b ps.length c) ps.length (ps.map (Value.int .u8)) ∧ Below w.heap.size w w')
    (q13 : ∀ w, Row .u8 w ap ps → cp = 0 → Calls Try.prog 10 #[.slice ap ps.length kp] w fun e w' => ∃ b c, e = .returned (.agg #[.int .i64 0, .slice b ls.length c]) ∧ w'.ownsRow w.heap.size 2 1 (.slice b ls.length c) ls.length (ls.map (Value.int .i64)) ∧ Below w.heap.size w w')
    (q24 : ∀ w, Calls Try.prog 21 #[.int .i64 n] w fun e w' => ∃ b c, e = .returned (.agg #[.int .i64 cw, .slice b ws.length c]) ∧ w'.ownsRow w.heap.size 5 1 (.slice b ws.length c) ws.length (ws.map (Value.int .u8)) ∧ Below w.heap.size w w')
    (q25 : ∀ w, Row .u8 w aw ws → cw = 0 → Calls Try.prog 22 #[.slice aw ws.length kw, .int .i64 0] w fun e w' => e = .returned (.agg #[.int .i64 0, .int .i64 n]) ∧ Below w.heap.size w w')
    (q26 : ∀ w, Row .u8 w bs ss → Calls Try.prog 23 #[.slice bs ss.length ks] w fun e w' => e = .returned (.agg #[.int .i64 cs, .int .i64 vs]) ∧ Below w.heap.size w w')
    (q27 : ∀ w, Row .u8 w bs ss → Calls Try.prog 24 #[.slice bs ss.length ks] w fun e w' => e = .returned (.agg #[.int .i64 cs, .int .i64 vs]) ∧ Below w.heap.size w w')
    (ku0 : (cu == 0) = true) (kp0 : (cp == 0) = false) (kw0 : (cw == 0) = false)
    (hexit : ∀ (u33 u34 u35 u36 u37 u38 u39 u40 u41 u42 u43 u44 u45 u46 u47 u48 u49 u50 u51 u52 u53 u54 u55 u56 u57 u58 u59 u60 u61 u62 u63 u64 u65 u66 u67 u68 u69 u70 u71 u72 u73 u74 u75 u76 u77 u78 u79 u80 u81 u82 u83 u84 u85 u86 u87 u88 u89 u90 u91 u92 u93 u94 u95 u96 u97 u98 u99 u100 u101 u102 u103 u104 u105 u106 u107 u108 u109 u110 u111 u112 u113 u114 u115 u116 u117 u118 u119 : Value) (w' : World), Below w8.heap.size w8 w' → Q0 .normal ⟨#[.slice a zl cap, undef, .bool false, .slice bd ds.length kd, .pointer (some ⟨B4, 0, none⟩), .slice bl ls.length kl, .pointer (some ⟨B6, 0, none⟩), .int .i64 n, .pointer (some ⟨B8, 0, none⟩), .slice bx xl kx, .int .i64 p, .slice bs ss.length ks, .slice a zl cap, .bool false, .slice a zl cap, .slice bd ds.length kd, .slice bd ds.length kd, .agg #[.int .i64 cu, .slice au us.length ku], .slice a zl cap, .slice bl ls.length kl, .slice bl ls.length kl, .agg #[.int .i64 cp, .slice ap ps.length kp], .slice a zl cap, .int .i64 n, .int .i64 n, .agg #[.int .i64 cw, .slice aw ws.length kw], .tuple #[.slice bx xl kx, .int .i64 p], .slice a zl cap, .tuple #[.slice bx xl kx, .int .i64 p], .slice bx xl kx, .int .i64 p, .slice a zl cap, .slice bs ss.length ks, u33, u34, u35, u36, u37, u38, u39, u40, u41, u42, u43, u44, u45, u46, u47, u48, u49, u50, u51, u52, u53, u54, u55, u56, u57, u58, u59, u60, u61, u62, u63, u64, u65, u66, u67, u68, u69, u70, u71, u72, u73, u74, u75, u76, u77, u78, u79, u80, u81, u82, u83, u84, u85, u86, u87, u88, u89, u90, u91, u92, u93, u94, u95, u96, u97, u98, u99, u100, u101, u102, u103, u104, u105, u106, u107, u108, u109, u110, u111, u112, u113, u114, u115, u116, u117, u118, u119, .bool false, undef, undef, undef, undef, undef, undef, undef, undef, undef, undef, undef, undef, undef, undef, undef, undef, undef, undef, undef, undef], []⟩ w') :
    Code.wp Try.prog ((Try.f3.body.bind (regNo 11)).getD .skip) Q0 ⟨#[.slice a zl cap, undef, .bool false, .slice bd ds.length kd, .pointer (some ⟨B4, 0, none⟩), .slice bl ls.length kl, .pointer (some ⟨B6, 0, none⟩), .int .i64 n, .pointer (some ⟨B8, 0, none⟩), .slice bx xl kx, .int .i64 p, .slice bs ss.length ks, .slice a zl cap, .bool false, .slice a zl cap, .slice bd ds.length kd, .slice bd ds.length kd, .agg #[.int .i64 cu, .slice au us.length ku], .slice a zl cap, .slice bl ls.length kl, .slice bl ls.length kl, .agg #[.int .i64 cp, .slice ap ps.length kp], .slice a zl cap, .int .i64 n, .int .i64 n, .agg #[.int .i64 cw, .slice aw ws.length kw], .tuple #[.slice bx xl kx, .int .i64 p], .slice a zl cap, .tuple #[.slice bx xl kx, .int .i64 p], .slice bx xl kx, .int .i64 p, .slice a zl cap, .slice bs ss.length ks, undef, undef, undef, undef, undef, undef, undef, undef, undef, undef, undef, undef, undef, undef, undef, undef, undef, undef, undef, undef, undef, undef, undef, undef, undef, undef, undef, undef, undef, undef, undef, undef, undef, undef, undef, undef, undef, undef, undef, undef, undef, undef, undef, undef, undef, undef, undef, undef, undef, undef, undef, undef, undef, undef, undef, undef, undef, undef, undef, undef, undef, undef, undef, undef, undef, undef, undef, undef, undef, undef, undef, undef, undef, undef, undef, undef, undef, undef, undef, undef, undef, undef, undef, undef, undef, undef, undef, undef, undef, undef, undef, undef, undef, undef, undef, undef, undef, undef, undef, undef, undef, undef, undef, undef, undef, undef, undef, undef], []⟩ w8 := by
  have hW : Below w8.heap.size w8 w8.drew := (Below.refl _ _).drew
  have hne : Nonempty (Lat w8) := ⟨⟨w8, Below.refl _ _⟩⟩
  have f27a := fieldI0
  have f27b := fieldI1
  have f31a := fieldB0
  have f31b := fieldB1
  have f40a := fieldN0
  have f40b := fieldN1
  have nu : (cu != cu) = false := by simp
  have np : (cp != cp) = false := by simp
  have nw : (cw != cw) = false := by simp
  have nc : (cs != cs) = false := by simp
  have nv : (vs != vs) = false := by simp
  have nn : (n != n) = false := by simp
  have k0 : ∀ u : Lat w8, u.val.cell? ⟨B4, 0, none⟩ = some (.int .i64 cu) := fun u => (six_below u.isBelow hS0).1
  have k1 : ∀ u : Lat w8, u.val.cell? ⟨B4, 1, none⟩ = some (.slice au us.length ku) := fun u => (six_below u.isBelow hS0).2.1
  have k2 : ∀ u : Lat w8, u.val.cell? ⟨B6, 0, none⟩ = some (.int .i64 cp) := fun u => (six_below u.isBelow hS0).2.2.1
  have k3 : ∀ u : Lat w8, u.val.cell? ⟨B6, 1, none⟩ = some (.slice ap ps.length kp) := fun u => (six_below u.isBelow hS0).2.2.2.1
  have k4 : ∀ u : Lat w8, u.val.cell? ⟨B8, 0, none⟩ = some (.int .i64 cw) := fun u => (six_below u.isBelow hS0).2.2.2.2.1
  have k5 : ∀ u : Lat w8, u.val.cell? ⟨B8, 1, none⟩ = some (.slice aw ws.length kw) := fun u => (six_below u.isBelow hS0).2.2.2.2.2
  have CU : cu = 0 := by simpa using ku0
  replace q15 := fun w h => q15 w h CU
  clear CU
  clear q13
  clear q25
  have HEX : Hid (∀ (u33 u34 u35 u36 u37 u38 u39 u40 u41 u42 u43 u44 u45 u46 u47 u48 u49 u50 u51 u52 u53 u54 u55 u56 u57 u58 u59 u60 u61 u62 u63 u64 u65 u66 u67 u68 u69 u70 u71 u72 u73 u74 u75 u76 u77 u78 u79 u80 u81 u82 u83 u84 u85 u86 u87 u88 u89 u90 u91 u92 u93 u94 u95 u96 u97 u98 u99 u100 u101 u102 u103 u104 u105 u106 u107 u108 u109 u110 u111 u112 u113 u114 u115 u116 u117 u118 u119 : Value) (w' : World), Below w8.heap.size w8 w' → Q0 .normal ⟨#[.slice a zl cap, undef, .bool false, .slice bd ds.length kd, .pointer (some ⟨B4, 0, none⟩), .slice bl ls.length kl, .pointer (some ⟨B6, 0, none⟩), .int .i64 n, .pointer (some ⟨B8, 0, none⟩), .slice bx xl kx, .int .i64 p, .slice bs ss.length ks, .slice a zl cap, .bool false, .slice a zl cap, .slice bd ds.length kd, .slice bd ds.length kd, .agg #[.int .i64 cu, .slice au us.length ku], .slice a zl cap, .slice bl ls.length kl, .slice bl ls.length kl, .agg #[.int .i64 cp, .slice ap ps.length kp], .slice a zl cap, .int .i64 n, .int .i64 n, .agg #[.int .i64 cw, .slice aw ws.length kw], .tuple #[.slice bx xl kx, .int .i64 p], .slice a zl cap, .tuple #[.slice bx xl kx, .int .i64 p], .slice bx xl kx, .int .i64 p, .slice a zl cap, .slice bs ss.length ks, u33, u34, u35, u36, u37, u38, u39, u40, u41, u42, u43, u44, u45, u46, u47, u48, u49, u50, u51, u52, u53, u54, u55, u56, u57, u58, u59, u60, u61, u62, u63, u64, u65, u66, u67, u68, u69, u70, u71, u72, u73, u74, u75, u76, u77, u78, u79, u80, u81, u82, u83, u84, u85, u86, u87, u88, u89, u90, u91, u92, u93, u94, u95, u96, u97, u98, u99, u100, u101, u102, u103, u104, u105, u106, u107, u108, u109, u110, u111, u112, u113, u114, u115, u116, u117, u118, u119, .bool false, undef, undef, undef, undef, undef, undef, undef, undef, undef, undef, undef, undef, undef, undef, undef, undef, undef, undef, undef, undef], []⟩ w') := hexit
  clear hexit hS0
  conv => arg 2; whnf
  simp only [List.append_eq, List.cons_append, List.nil_append]
  refine text_begin (S := fun w' => ∃ u : Lat w8, w' = u.val) (by kernel_rfl) ?_
  refine seg_range [(0, 3)] 85 (by kernel_rfl) (by kernel_rfl) (by kernel_rfl) (by kernel_rfl) (by kernel_rfl) ⟨⟨_, hW⟩, rfl⟩ ?_
  simp only [pickR, List.toList_toArray, List.flatMap_cons, List.flatMap_nil, List.drop_succ_cons, List.drop_zero, List.take_succ_cons, List.take_zero, List.cons_append, List.nil_append, List.append_nil]
  repeat go_big_quiet_step (fail)
  refine wpQuiet_nil ?_
  refine call_at 3 (some 36) 17 #[.slice bd ds.length kd] 84 (by kernel_rfl) (by kernel_rfl) (by kernel_rfl) (by kernel_rfl) (by kernel_rfl) ?_
  refine (q20 _ (hRd.below hW)).mono ?_
  rintro e w9 ⟨b3, c3, rfl, o9, hb⟩
  clear o9
  replace hW := hW.trans (hb.mono hW.size)
  refine ⟨_, rfl, ⟨⟨_, hW⟩, rfl⟩, ?_⟩
  simp only [Act.put, List.setIfInBounds_toArray, List.set_cons_zero, List.set_cons_succ]
  refine seg_range [(4, 9), (15, 1)] 74 (by kernel_rfl) (by kernel_rfl) (by kernel_rfl) (by kernel_rfl) (by kernel_rfl) ⟨⟨_, hW⟩, rfl⟩ ?_
  simp only [pickR, List.toList_toArray, List.flatMap_cons, List.flatMap_nil, List.drop_succ_cons, List.drop_zero, List.take_succ_cons, List.take_zero, List.cons_append, List.nil_append, List.append_nil]
  repeat go_big_quiet_step (fail)
  refine wpQuiet_nil ?_
  refine call_at 13 (some 46) 12 #[.slice au us.length ku] 73 (by kernel_rfl) (by kernel_rfl) (by kernel_rfl) (by kernel_rfl) (by kernel_rfl) ?_
  refine (q15 _ (hRu.below hW)).mono ?_
  rintro e w9 ⟨b10, c10, rfl, o10, hb⟩
  have hR10 := Row.own o10
  clear o10
  replace hW := hW.trans (hb.mono hW.size)
  refine ⟨_, rfl, ⟨⟨_, hW⟩, rfl⟩, ?_⟩
  simp only [Act.put, List.setIfInBounds_toArray, List.set_cons_zero, List.set_cons_succ]
  refine seg_range [(14, 1)] 72 (by kernel_rfl) (by kernel_rfl) (by kernel_rfl) (by kernel_rfl) (by kernel_rfl) ⟨⟨_, hW⟩, rfl⟩ ?_
  simp only [pickR, List.toList_toArray, List.flatMap_cons, List.flatMap_nil, List.drop_succ_cons, List.drop_zero, List.take_succ_cons, List.take_zero, List.cons_append, List.nil_append, List.append_nil]
  repeat go_big_quiet_step (fail)
  refine wpQuiet_nil ?_
  refine call_at 16 (some 49) 18 #[.slice b10 ds.length c10, .slice bd ds.length kd] 71 (by kernel_rfl) (by kernel_rfl) (by kernel_rfl) (by kernel_rfl) (by kernel_rfl) ?_
  refine (lwBytes_b _ _ _ _ ds _ hR10 (hRd.below hW) hdl).mono ?_
  rintro e w9 ⟨rfl, hb⟩
  replace hW := hW.trans (hb.mono hW.size)
  refine ⟨_, rfl, ⟨⟨_, hW⟩, rfl⟩, ?_⟩
  simp only [Act.put, List.setIfInBounds_toArray, List.set_cons_zero, List.set_cons_succ]
  refine seg_range [(17, 7)] 64 (by kernel_rfl) (by kernel_rfl) (by kernel_rfl) (by kernel_rfl) (by kernel_rfl) ⟨⟨_, hW⟩, rfl⟩ ?_
  simp only [pickR, List.toList_toArray, List.flatMap_cons, List.flatMap_nil, List.drop_succ_cons, List.drop_zero, List.take_succ_cons, List.take_zero, List.cons_append, List.nil_append, List.append_nil]
  repeat go_big_quiet_step (fail)
  refine wpQuiet_nil ?_
  refine call_at 24 (some 57) 19 #[.slice bl ls.length kl] 63 (by kernel_rfl) (by kernel_rfl) (by kernel_rfl) (by kernel_rfl) (by kernel_rfl) ?_
  refine (q22 _ (hRl.below hW)).mono ?_
  rintro e w9 ⟨b24, c24, rfl, o9, hb⟩
  clear o9
  replace hW := hW.trans (hb.mono hW.size)
  refine ⟨_, rfl, ⟨⟨_, hW⟩, rfl⟩, ?_⟩
  simp only [Act.put, List.setIfInBounds_toArray, List.set_cons_zero, List.set_cons_succ]
  refine seg_range [(25, 10), (37, 1)] 52 (by kernel_rfl) (by kernel_rfl) (by kernel_rfl) (by kernel_rfl) (by kernel_rfl) ⟨⟨_, hW⟩, rfl⟩ ?_
  simp only [pickR, List.toList_toArray, List.flatMap_cons, List.flatMap_nil, List.drop_succ_cons, List.drop_zero, List.take_succ_cons, List.take_zero, List.cons_append, List.nil_append, List.append_nil]
  repeat go_big_quiet_step (fail)
  refine wpQuiet_nil ?_
  refine skip_at 35 (some 68) 51 (by kernel_rfl) (by kernel_rfl) (by kernel_rfl) (by kernel_rfl) (by kernel_rfl) ⟨⟨_, hW⟩, rfl⟩ ?_
  simp only [Act.put, List.setIfInBounds_toArray, List.set_cons_zero, List.set_cons_succ]
  refine seg_range [(36, 1)] 50 (by kernel_rfl) (by kernel_rfl) (by kernel_rfl) (by kernel_rfl) (by kernel_rfl) ⟨⟨_, hW⟩, rfl⟩ ?_
  simp only [pickR, List.toList_toArray, List.flatMap_cons, List.flatMap_nil, List.drop_succ_cons, List.drop_zero, List.take_succ_cons, List.take_zero, List.cons_append, List.nil_append, List.append_nil]
  repeat go_big_quiet_step (fail)
  refine wpQuiet_nil ?_
  refine skip_at 38 (some 71) 49 (by kernel_rfl) (by kernel_rfl) (by kernel_rfl) (by kernel_rfl) (by kernel_rfl) ⟨⟨_, hW⟩, rfl⟩ ?_
  simp only [Act.put, List.setIfInBounds_toArray, List.set_cons_zero, List.set_cons_succ]
  refine seg_range [(39, 4)] 45 (by kernel_rfl) (by kernel_rfl) (by kernel_rfl) (by kernel_rfl) (by kernel_rfl) ⟨⟨_, hW⟩, rfl⟩ ?_
  simp only [pickR, List.toList_toArray, List.flatMap_cons, List.flatMap_nil, List.drop_succ_cons, List.drop_zero, List.take_succ_cons, List.take_zero, List.cons_append, List.nil_append, List.append_nil]
  repeat go_big_quiet_step (fail)
  refine wpQuiet_nil ?_
  refine skip_at 43 (some 76) 44 (by kernel_rfl) (by kernel_rfl) (by kernel_rfl) (by kernel_rfl) (by kernel_rfl) ⟨⟨_, hW⟩, rfl⟩ ?_
  simp only [Act.put, List.setIfInBounds_toArray, List.set_cons_zero, List.set_cons_succ]
  refine seg_range [(44, 9)] 35 (by kernel_rfl) (by kernel_rfl) (by kernel_rfl) (by kernel_rfl) (by kernel_rfl) ⟨⟨_, hW⟩, rfl⟩ ?_
  simp only [pickR, List.toList_toArray, List.flatMap_cons, List.flatMap_nil, List.drop_succ_cons, List.drop_zero, List.take_succ_cons, List.take_zero, List.cons_append, List.nil_append, List.append_nil]
  repeat go_big_quiet_step (fail)
  refine wpQuiet_nil ?_
  refine call_at 53 (some 86) 21 #[.int .i64 n] 34 (by kernel_rfl) (by kernel_rfl) (by kernel_rfl) (by kernel_rfl) (by kernel_rfl) ?_
  refine (q24 _).mono ?_
  rintro e w9 ⟨b53, c53, rfl, o9, hb⟩
  clear o9
  replace hW := hW.trans (hb.mono hW.size)
  refine ⟨_, rfl, ⟨⟨_, hW⟩, rfl⟩, ?_⟩
  simp only [Act.put, List.setIfInBounds_toArray, List.set_cons_zero, List.set_cons_succ]
  refine seg_range [(54, 10), (66, 1)] 23 (by kernel_rfl) (by kernel_rfl) (by kernel_rfl) (by kernel_rfl) (by kernel_rfl) ⟨⟨_, hW⟩, rfl⟩ ?_
  simp only [pickR, List.toList_toArray, List.flatMap_cons, List.flatMap_nil, List.drop_succ_cons, List.drop_zero, List.take_succ_cons, List.take_zero, List.cons_append, List.nil_append, List.append_nil]
  repeat go_big_quiet_step (fail)
  refine wpQuiet_nil ?_
  refine skip_at 64 (some 97) 22 (by kernel_rfl) (by kernel_rfl) (by kernel_rfl) (by kernel_rfl) (by kernel_rfl) ⟨⟨_, hW⟩, rfl⟩ ?_
  simp only [Act.put, List.setIfInBounds_toArray, List.set_cons_zero, List.set_cons_succ]
  refine seg_range [(65, 1), (67, 5), (74, 1)] 15 (by kernel_rfl) (by kernel_rfl) (by kernel_rfl) (by kernel_rfl) (by kernel_rfl) ⟨⟨_, hW⟩, rfl⟩ ?_
  simp only [pickR, List.toList_toArray, List.flatMap_cons, List.flatMap_nil, List.drop_succ_cons, List.drop_zero, List.take_succ_cons, List.take_zero, List.cons_append, List.nil_append, List.append_nil]
  repeat go_big_quiet_step (fail)
  refine wpQuiet_nil ?_
  refine call_at 72 (some 105) 23 #[.slice bs ss.length ks] 14 (by kernel_rfl) (by kernel_rfl) (by kernel_rfl) (by kernel_rfl) (by kernel_rfl) ?_
  refine (q26 _ (hRs.below hW)).mono ?_
  rintro e w9 ⟨rfl, hb⟩
  replace hW := hW.trans (hb.mono hW.size)
  refine ⟨_, rfl, ⟨⟨_, hW⟩, rfl⟩, ?_⟩
  simp only [Act.put, List.setIfInBounds_toArray, List.set_cons_zero, List.set_cons_succ]
  refine seg_range [(73, 1)] 13 (by kernel_rfl) (by kernel_rfl) (by kernel_rfl) (by kernel_rfl) (by kernel_rfl) ⟨⟨_, hW⟩, rfl⟩ ?_
  simp only [pickR, List.toList_toArray, List.flatMap_cons, List.flatMap_nil, List.drop_succ_cons, List.drop_zero, List.take_succ_cons, List.take_zero, List.cons_append, List.nil_append, List.append_nil]
  repeat go_big_quiet_step (fail)
  refine wpQuiet_nil ?_
  refine call_at 75 (some 108) 24 #[.slice bs ss.length ks] 12 (by kernel_rfl) (by kernel_rfl) (by kernel_rfl) (by kernel_rfl) (by kernel_rfl) ?_
  refine (q27 _ (hRs.below hW)).mono ?_
  rintro e w9 ⟨rfl, hb⟩
  replace hW := hW.trans (hb.mono hW.size)
  refine ⟨_, rfl, ⟨⟨_, hW⟩, rfl⟩, ?_⟩
  simp only [Act.put, List.setIfInBounds_toArray, List.set_cons_zero, List.set_cons_succ]
  refine seg_range [(76, 5), (83, 1)] 6 (by kernel_rfl) (by kernel_rfl) (by kernel_rfl) (by kernel_rfl) (by kernel_rfl) ⟨⟨_, hW⟩, rfl⟩ ?_
  simp only [pickR, List.toList_toArray, List.flatMap_cons, List.flatMap_nil, List.drop_succ_cons, List.drop_zero, List.take_succ_cons, List.take_zero, List.cons_append, List.nil_append, List.append_nil]
  repeat go_big_quiet_step (fail)
  refine wpQuiet_nil ?_
  refine call_at 81 (some 114) 23 #[.slice bs ss.length ks] 5 (by kernel_rfl) (by kernel_rfl) (by kernel_rfl) (by kernel_rfl) (by kernel_rfl) ?_
  refine (q26 _ (hRs.below hW)).mono ?_
  rintro e w9 ⟨rfl, hb⟩
  replace hW := hW.trans (hb.mono hW.size)
  refine ⟨_, rfl, ⟨⟨_, hW⟩, rfl⟩, ?_⟩
  simp only [Act.put, List.setIfInBounds_toArray, List.set_cons_zero, List.set_cons_succ]
  refine seg_range [(82, 1)] 4 (by kernel_rfl) (by kernel_rfl) (by kernel_rfl) (by kernel_rfl) (by kernel_rfl) ⟨⟨_, hW⟩, rfl⟩ ?_
  simp only [pickR, List.toList_toArray, List.flatMap_cons, List.flatMap_nil, List.drop_succ_cons, List.drop_zero, List.take_succ_cons, List.take_zero, List.cons_append, List.nil_append, List.append_nil]
  repeat go_big_quiet_step (fail)
  refine wpQuiet_nil ?_
  refine call_at 84 (some 117) 24 #[.slice bs ss.length ks] 3 (by kernel_rfl) (by kernel_rfl) (by kernel_rfl) (by kernel_rfl) (by kernel_rfl) ?_
  refine (q27 _ (hRs.below hW)).mono ?_
  rintro e w9 ⟨rfl, hb⟩
  replace hW := hW.trans (hb.mono hW.size)
  refine ⟨_, rfl, ⟨⟨_, hW⟩, rfl⟩, ?_⟩
  simp only [Act.put, List.setIfInBounds_toArray, List.set_cons_zero, List.set_cons_succ]
  refine seg_range [(85, 3)] 0 (by kernel_rfl) (by kernel_rfl) (by kernel_rfl) (by kernel_rfl) (by kernel_rfl) ⟨⟨_, hW⟩, rfl⟩ ?_
  simp only [pickR, List.toList_toArray, List.flatMap_cons, List.flatMap_nil, List.drop_succ_cons, List.drop_zero, List.take_succ_cons, List.take_zero, List.cons_append, List.nil_append, List.append_nil]
  repeat go_big_quiet_step (fail)
  refine wpQuiet_nil ?_
  refine text_end (by kernel_rfl) ?_
  exact HEX.out _ _ _ _ _ _ _ _ _ _ _ _ _ _ _ _ _ _ _ _ _ _ _ _ _ _ _ _ _ _ _ _ _ _ _ _ _ _ _ _ _ _ _ _ _ _ _ _ _ _ _ _ _ _ _ _ _ _ _ _ _ _ _ _ _ _ _ _ _ _ _ _ _ _ _ _ _ _ _ _ _ _ _ _ _ _ _ _ hW

end Go.Proofs.Ytbionobcbbmbjab

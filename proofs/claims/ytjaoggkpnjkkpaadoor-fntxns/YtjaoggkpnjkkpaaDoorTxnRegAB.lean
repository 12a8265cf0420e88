/- Texts that stand together: data, memory, helpers. No condition. -/
import Derived.Test.YtjaoggkpnjkkpaaDoorTxnRegBase
namespace Go.Proofs.YtjaoggkpnjkkpaaDoor
open Go.RowKit
open Go.BigFrame
set_option linter.unusedVariables false
set_option linter.unusedSimpArgs false

set_option maxRecDepth 1000000 in
set_option maxHeartbeats 8000000 in
theorem txnReg111 (b0 ua la fa ia : Option Addr) (k0 uc lc fc ic B4 B9 B10 : Nat) (ds iL : List Int) (D : List TxnD) (uz fz : List ActD) (uC ui us uq n fC fi fs fq iC cP : Int) (x0 x1 x2 x5 x6 x11 x12 x13 x14 x15 x16 x17 x18 x19 x20 x21 x22 x23 x24 x25 x26 x27 x28 x29 x30 : Value) (W : World) (hd0 : Row .u8 W b0 ds) (hU : ActRow W ua uz) (hT : TxnsAt W (.slice la D.length lc) D) (hFr : ActRow W fa fz) (hdl : ds.length ≤ 1000) (hs5 : sumA D ≤ 305) (hfl : fz.length ≤ sumA D)
    (Bu : Blk W B4 29 #[.int .i64 uC, .int .i64 ui, .int .i64 us, .int .i64 uq, .slice ua uz.length uc]) (Bf : Blk W B9 29 #[.int .i64 fC, .int .i64 fi, .int .i64 fs, .int .i64 fq, .slice fa fz.length fc]) (Bi : Blk W B10 41 #[.int .i64 iC, .slice ia iL.length ic])
    (hsR : ∀ w : World, Row .u8 w b0 ds → Calls Tryd.prog 12 #[.slice b0 ds.length k0] w fun e w' => ∃ b c, e = .returned (.agg #[.int .i64 uC, .int .i64 ui, .int .i64 us, .int .i64 uq, .slice b uz.length c]) ∧ w'.ownsRow w.heap.size 54 3 (.slice b uz.length c) uz.length (actCells uz) ∧ Below w.heap.size w w')
    (hsF : ∀ w : World, TxnsAt w (.slice la D.length lc) D → Calls Tryd.prog 14 #[.slice la D.length lc, .int .i64 n] w fun e w' => ∃ b c, e = .returned (.agg #[.int .i64 fC, .int .i64 fi, .int .i64 fs, .int .i64 fq, .slice b fz.length c]) ∧ w'.ownsRow w.heap.size 54 3 (.slice b fz.length c) fz.length (actCells fz) ∧ Below w.heap.size w w')
    (hsI : ∀ w : World, TxnsAt w (.slice la D.length lc) D → Calls Tryd.prog 15 #[.slice la D.length lc] w fun e w' => ∃ b c, e = .returned (.agg #[.int .i64 iC, .slice b iL.length c]) ∧ w'.ownsRow w.heap.size 2 1 (.slice b iL.length c) iL.length (iL.map (Value.int .i64)) ∧ Below w.heap.size w w')
    (hPu : uC = 0 → ∀ w : World, ActRow w ua uz → Calls Tryd.prog 8 #[.agg #[.int .i64 ui, .int .i64 us, .int .i64 uq, .slice ua uz.length uc]] w fun e w' => ∃ b c, e = .returned (.agg #[.int .i64 cP, .slice b ds.length c]) ∧ w'.ownsRow w.heap.size 5 1 (.slice b ds.length c) ds.length (ds.map (Value.int .u8)) ∧ Below w.heap.size w w')
    (hFI : fC = 0 → fi = n) (hII : iC = 0 → iL.length = D.length) (hu0 : uC = 0) (hf0' : fC = 0) (hi0 : iC = 0) :
    Code.wp Tryd.prog ((Tryd.f3.body.bind (regNo 10)).getD .skip) (CutQ ⟨#[x0, x1, x2, .slice b0 ds.length k0, .pointer (some ⟨B4, 0, none⟩), x5, x6, .slice la D.length lc, .int .i64 n, .pointer (some ⟨B9, 0, none⟩), .pointer (some ⟨B10, 0, none⟩), x11, x12, x13, x14, x15, x16, x17, x18, x19, x20, x21, x22, x23, x24, x25, x26, x27, x28, x29, x30, undef, undef, undef, undef, undef, undef, undef, undef, undef, undef, undef, undef, undef, undef, undef, undef, undef, undef, undef, undef, undef, undef, undef, undef, undef, undef, undef, undef, undef, undef, undef, undef, undef, undef, undef, undef, undef, undef, undef, undef, undef, undef, undef, undef, undef, undef, undef, undef, undef, undef, undef, undef, undef, undef, undef, undef, undef, undef, undef, undef, undef, undef, undef, undef, undef, undef, undef, undef, undef, undef, undef, undef, undef, undef, undef, undef, undef, undef, undef, undef, undef, undef, undef, undef, undef, undef, undef, undef, undef, undef, undef, undef, undef, undef, undef, undef, undef, undef, undef, undef, undef, undef, undef, undef, undef], []⟩ 31 73 (.bool false) (fun w' => Below W.heap.size W w')) ⟨#[x0, x1, x2, .slice b0 ds.length k0, .pointer (some ⟨B4, 0, none⟩), x5, x6, .slice la D.length lc, .int .i64 n, .pointer (some ⟨B9, 0, none⟩), .pointer (some ⟨B10, 0, none⟩), x11, x12, x13, x14, x15, x16, x17, x18, x19, x20, x21, x22, x23, x24, x25, x26, x27, x28, x29, x30, undef, undef, undef, undef, undef, undef, undef, undef, undef, undef, undef, undef, undef, undef, undef, undef, undef, undef, undef, undef, undef, undef, undef, undef, undef, undef, undef, undef, undef, undef, undef, undef, undef, undef, undef, undef, undef, undef, undef, undef, undef, undef, undef, undef, undef, undef, undef, undef, undef, undef, undef, undef, undef, undef, undef, undef, undef, undef, undef, undef, undef, undef, undef, undef, undef, undef, undef, undef, undef, undef, undef, undef, undef, undef, undef, undef, undef, undef, undef, undef, undef, undef, undef, undef, undef, undef, undef, undef, undef, undef, undef, undef, undef, undef, undef, undef, undef, undef, undef, undef, undef, undef, undef, undef, undef], []⟩ W := by
  replace hPu := hPu hu0
  have ku : (uC == 0) = true := by simp [hu0]
  have kf : (fC == 0) = true := by simp [hf0']
  have kid : (fi != n) = false := by simp [hFI hf0']
  have ki : (iC == 0) = true := by simp [hi0]
  have kl : ((iL.length : Int) != (D.length : Int)) = false := by simp [hII hi0]
  clear hu0 hf0' hi0 hFI hII
  have n1 : (uC != uC) = false := by simp
  have n2 : (fC != fC) = false := by simp
  have n3 : (iC != iC) = false := by simp
  have hf0 := fieldT0
  have hf1 := fieldT1
  have hf2 := fieldB0
  have hf3 := fieldB1
  have hf4 := fieldN0
  conv => arg 2; whnf
  simp only [List.append_eq, List.cons_append, List.nil_append]
  have hW : Below W.heap.size W W.drew := (Below.refl _ _).drew
  have hnn : Nonempty (Lat W) := ⟨⟨W, Below.refl _ _⟩⟩
  have x0 := Bu.lat 0 _ rfl
  have x1 := Bu.lat 1 _ rfl
  have x2 := Bu.lat 2 _ rfl
  have x3 := Bu.lat 3 _ rfl
  have x4 := Bu.lat 4 _ rfl
  have y0 := Bf.lat 0 _ rfl
  have y1 := Bf.lat 1 _ rfl
  have y2 := Bf.lat 2 _ rfl
  have y3 := Bf.lat 3 _ rfl
  have y4 := Bf.lat 4 _ rfl
  have z0 := Bi.lat 0 _ rfl
  have z1 := Bi.lat 1 _ rfl
  refine text_begin (S := fun w' => ∃ u : Lat W, w' = u.val) (by kernel_rfl) ?_
  have hsd : Hid (True) := trivial
  generalize W.drew = wd at hW ⊢
  refine seg_range [(0, 3)] 71 (by kernel_rfl) (by kernel_rfl) (by kernel_rfl) (by kernel_rfl) (by kernel_rfl) ⟨⟨_, hW⟩, rfl⟩ ?_
  simp only [pickR, List.toList_toArray, List.flatMap_cons, List.flatMap_nil, List.drop_succ_cons, List.drop_zero, List.take_succ_cons, List.take_zero, List.cons_append, List.nil_append, List.append_nil]
  repeat go_big_quiet_step (fail)
  refine wpQuiet_nil ?_
  refine call_at 3 (some 34) 12 #[.slice b0 ds.length k0] 70 (by kernel_rfl) (by kernel_rfl) (by kernel_rfl) (by kernel_rfl) (by kernel_rfl) ?_
  refine (hsR _ (hd0.below hW)).mono ?_
  rintro e v1 ⟨xb, xc, rfl, o9, hb9⟩
  replace hW := hW.trans (hb9.mono hW.size)
  clear o9
  clear hb9
  refine ⟨_, rfl, ⟨⟨_, hW⟩, rfl⟩, ?_⟩
  simp only [Act.put, List.setIfInBounds_toArray, List.set_cons_zero, List.set_cons_succ]
  refine seg_range [(4, 9), (15, 1)] 60 (by kernel_rfl) (by kernel_rfl) (by kernel_rfl) (by kernel_rfl) (by kernel_rfl) ⟨⟨_, hW⟩, rfl⟩ ?_
  simp only [pickR, List.toList_toArray, List.flatMap_cons, List.flatMap_nil, List.drop_succ_cons, List.drop_zero, List.take_succ_cons, List.take_zero, List.cons_append, List.nil_append, List.append_nil]
  repeat go_big_quiet_step (fail)
  refine wpQuiet_nil ?_
  refine call_at 13 (some 44) 8 #[.agg #[.int .i64 ui, .int .i64 us, .int .i64 uq, .slice ua uz.length uc]] 59 (by kernel_rfl) (by kernel_rfl) (by kernel_rfl) (by kernel_rfl) (by kernel_rfl) ?_
  refine (hPu _ (hU.below hW)).mono ?_
  rintro e v2 ⟨yb, yc, rfl, o9, hb9⟩
  replace hW := hW.trans (hb9.mono hW.size)
  have hY : Row .u8 v2 yb ds := Row.own o9
  clear o9
  clear hb9
  refine ⟨_, rfl, ⟨⟨_, hW⟩, rfl⟩, ?_⟩
  simp only [Act.put, List.setIfInBounds_toArray, List.set_cons_zero, List.set_cons_succ]
  refine seg_range [(14, 1)] 58 (by kernel_rfl) (by kernel_rfl) (by kernel_rfl) (by kernel_rfl) (by kernel_rfl) ⟨⟨_, hW⟩, rfl⟩ ?_
  simp only [pickR, List.toList_toArray, List.flatMap_cons, List.flatMap_nil, List.drop_succ_cons, List.drop_zero, List.take_succ_cons, List.take_zero, List.cons_append, List.nil_append, List.append_nil]
  repeat go_big_quiet_step (fail)
  refine wpQuiet_nil ?_
  refine call_at 16 (some 47) 13 #[.slice yb ds.length yc, .slice b0 ds.length k0] 57 (by kernel_rfl) (by kernel_rfl) (by kernel_rfl) (by kernel_rfl) (by kernel_rfl) ?_
  refine (lwBytesB _ _ _ _ ds _ hY (hd0.below hW) (by omega)).mono ?_
  rintro e v3 ⟨rfl, hb9⟩
  replace hW := hW.trans (hb9.mono hW.size)
  replace hY := hY.below hb9
  clear hb9
  refine ⟨_, rfl, ⟨⟨_, hW⟩, rfl⟩, ?_⟩
  simp only [Act.put, List.setIfInBounds_toArray, List.set_cons_zero, List.set_cons_succ]
  refine seg_range [(17, 8)] 49 (by kernel_rfl) (by kernel_rfl) (by kernel_rfl) (by kernel_rfl) (by kernel_rfl) ⟨⟨_, hW⟩, rfl⟩ ?_
  simp only [pickR, List.toList_toArray, List.flatMap_cons, List.flatMap_nil, List.drop_succ_cons, List.drop_zero, List.take_succ_cons, List.take_zero, List.cons_append, List.nil_append, List.append_nil]
  repeat go_big_quiet_step (fail)
  refine wpQuiet_nil ?_
  refine call_at 25 (some 56) 14 #[.slice la D.length lc, .int .i64 n] 48 (by kernel_rfl) (by kernel_rfl) (by kernel_rfl) (by kernel_rfl) (by kernel_rfl) ?_
  refine (hsF _ (hT.below hW)).mono ?_
  rintro e v4 ⟨zb0, zc0, rfl, o9, hb9⟩
  replace hW := hW.trans (hb9.mono hW.size)
  replace hY := hY.below hb9
  clear o9
  clear hb9
  refine ⟨_, rfl, ⟨⟨_, hW⟩, rfl⟩, ?_⟩
  simp only [Act.put, List.setIfInBounds_toArray, List.set_cons_zero, List.set_cons_succ]
  refine seg_range [(26, 7)] 41 (by kernel_rfl) (by kernel_rfl) (by kernel_rfl) (by kernel_rfl) (by kernel_rfl) ⟨⟨_, hW⟩, rfl⟩ ?_
  simp only [pickR, List.toList_toArray, List.flatMap_cons, List.flatMap_nil, List.drop_succ_cons, List.drop_zero, List.take_succ_cons, List.take_zero, List.cons_append, List.nil_append, List.append_nil]
  repeat go_big_quiet_step (fail)
  refine wpQuiet_nil ?_
  refine call_at 33 (some 64) 15 #[.slice la D.length lc] 40 (by kernel_rfl) (by kernel_rfl) (by kernel_rfl) (by kernel_rfl) (by kernel_rfl) ?_
  refine (hsI _ (hT.below hW)).mono ?_
  rintro e v5 ⟨jb, jc, rfl, o9, hb9⟩
  replace hW := hW.trans (hb9.mono hW.size)
  replace hY := hY.below hb9
  clear o9
  clear hb9
  refine ⟨_, rfl, ⟨⟨_, hW⟩, rfl⟩, ?_⟩
  simp only [Act.put, List.setIfInBounds_toArray, List.set_cons_zero, List.set_cons_succ]
  refine seg_range [(34, 16), (51, 2)] 22 (by kernel_rfl) (by kernel_rfl) (by kernel_rfl) (by kernel_rfl) (by kernel_rfl) ⟨⟨_, hW⟩, rfl⟩ ?_
  simp only [pickR, List.toList_toArray, List.flatMap_cons, List.flatMap_nil, List.drop_succ_cons, List.drop_zero, List.take_succ_cons, List.take_zero, List.cons_append, List.nil_append, List.append_nil]
  repeat go_big_quiet_step (fail)
  refine wpQuiet_nil ?_
  refine two_at 50 53 21 (by kernel_rfl) (by kernel_rfl) ?_ ?_
  · skip
    refine op_g 50 _ rfl (by kernel_rfl) ?_
    have hb9 : Below v5.heap.size v5 (v5.alloc (.cells #[.int .i64 fi, .int .i64 fs, .int .i64 fq, .slice fa fz.length fc] 27)) := by go_grown
    have B1 := Blk.new v5 27 #[.int .i64 fi, .int .i64 fs, .int .i64 fq, .slice fa fz.length fc]
    replace hW := hW.trans (hb9.mono hW.size)
    replace hY := hY.below hb9
    go_wp2
    refine ThenGo.to ⟨⟨⟨_, hW⟩, rfl⟩, ?_⟩
    generalize v5.alloc (.cells #[.int .i64 fi, .int .i64 fs, .int .i64 fq, .slice fa fz.length fc] 27) = z6 at hb9 hW B1 hY ⊢
    clear hb9
    generalize v5.heap.size = g1 at B1 ⊢
    refine call_at 53 (some 84) 14 #[.slice la D.length lc, .int .i64 n] 20 (by kernel_rfl) (by kernel_rfl) (by kernel_rfl) (by kernel_rfl) (by kernel_rfl) ?_
    refine (hsF _ (hT.below hW)).mono ?_
    rintro e v7 ⟨zb, zc, rfl, o9, hb9⟩
    replace hW := hW.trans (hb9.mono hW.size)
    replace hY := hY.below hb9
    replace B1 := B1.below hb9
    have hZ : ActRow v7 zb fz := Lies.own o9
    clear o9
    clear hb9
    refine ⟨_, rfl, ⟨⟨_, hW⟩, rfl⟩, ?_⟩
    simp only [Act.put, List.setIfInBounds_toArray, List.set_cons_zero, List.set_cons_succ]
    refine seg_range [(54, 1)] 19 (by kernel_rfl) (by kernel_rfl) (by kernel_rfl) (by kernel_rfl) (by kernel_rfl) ⟨⟨_, hW⟩, rfl⟩ ?_
    simp only [pickR, List.toList_toArray, List.flatMap_cons, List.flatMap_nil, List.drop_succ_cons, List.drop_zero, List.take_succ_cons, List.take_zero, List.cons_append, List.nil_append, List.append_nil]
    repeat go_big_quiet_step (fail)
    refine wpQuiet_nil ?_
    refine one_g 55 _ 18 (by kernel_rfl) rfl (by kernel_rfl) (by kernel_rfl) ?_
    have hb9 : Below v7.heap.size v7 (v7.alloc (.cells #[.int .i64 fi, .int .i64 fs, .int .i64 fq, .slice zb fz.length zc] 27)) := by go_grown
    have B2 := Blk.new v7 27 #[.int .i64 fi, .int .i64 fs, .int .i64 fq, .slice zb fz.length zc]
    replace hW := hW.trans (hb9.mono hW.size)
    replace hY := hY.below hb9
    replace B1 := B1.below hb9
    replace hZ := hZ.below hb9
    go_wp2
    refine ThenGo.to ⟨⟨⟨_, hW⟩, rfl⟩, ?_⟩
    generalize v7.alloc (.cells #[.int .i64 fi, .int .i64 fs, .int .i64 fq, .slice zb fz.length zc] 27) = z8 at hb9 hW B2 hY B1 hZ ⊢
    clear hb9
    generalize v7.heap.size = g2 at B2 ⊢
    refine call_at 56 (some 87) 16 #[.slice (some ⟨g1, 0, none⟩) 1 1, .slice (some ⟨g2, 0, none⟩) 1 1] 17 (by kernel_rfl) (by kernel_rfl) (by kernel_rfl) (by kernel_rfl) (by kernel_rfl) ?_
    refine (implSameTxns_any _ _ [⟨fi, fs, fq, fz⟩] [⟨fi, fs, fq, fz⟩] _ (txn_one B1 (hFr.below hW)) (txn_one B2 hZ) (by simp [sumA]; omega) (by simp [sumA]; omega)).mono ?_
    rintro e v9 ⟨hs9, hb9⟩
    replace hW := hW.trans (hb9.mono hW.size)
    replace hY := hY.below hb9
    replace B1 := B1.below hb9
    replace hZ := hZ.below hb9
    replace B2 := B2.below hb9
    rw [sameT_one] at hs9
    subst hs9
    clear hb9
    refine ⟨_, rfl, ⟨⟨_, hW⟩, rfl⟩, ?_⟩
    simp only [Act.put, List.setIfInBounds_toArray, List.set_cons_zero, List.set_cons_succ]
    refine seg_range [(57, 11), (69, 1)] 5 (by kernel_rfl) (by kernel_rfl) (by kernel_rfl) (by kernel_rfl) (by kernel_rfl) ⟨⟨_, hW⟩, rfl⟩ ?_
    simp only [pickR, List.toList_toArray, List.flatMap_cons, List.flatMap_nil, List.drop_succ_cons, List.drop_zero, List.take_succ_cons, List.take_zero, List.cons_append, List.nil_append, List.append_nil]
    repeat go_big_quiet_step (fail)
    refine wpQuiet_nil ?_
    refine quiet_at 68 (some 99) (.int .i64 iL.length) 4 (by kernel_rfl) (by kernel_rfl) (by kernel_rfl) (by kernel_rfl) (by kernel_rfl) (fun u _ => by kernel_rfl) ⟨⟨_, hW⟩, rfl⟩ ?_
    simp only [Act.put, List.setIfInBounds_toArray, List.set_cons_zero, List.set_cons_succ]
    refine quiet_at 70 (some 101) (.int .i64 D.length) 3 (by kernel_rfl) (by kernel_rfl) (by kernel_rfl) (by kernel_rfl) (by kernel_rfl) (fun u _ => by kernel_rfl) ⟨⟨_, hW⟩, rfl⟩ ?_
    simp only [Act.put, List.setIfInBounds_toArray, List.set_cons_zero, List.set_cons_succ]
    refine seg_range [(71, 3)] 0 (by kernel_rfl) (by kernel_rfl) (by kernel_rfl) (by kernel_rfl) (by kernel_rfl) ⟨⟨_, hW⟩, rfl⟩ ?_
    simp only [pickR, List.toList_toArray, List.flatMap_cons, List.flatMap_nil, List.drop_succ_cons, List.drop_zero, List.take_succ_cons, List.take_zero, List.cons_append, List.nil_append, List.append_nil]
    repeat go_big_quiet_step (fail)
    refine wpQuiet_nil ?_
    refine text_end (by kernel_rfl) ?_
    exact CutQ.mk rfl rfl rfl (Nat.le_of_ble_eq_true (by kernel_rfl)) hW
  · skip
    refine op_call 53 (some 84) 14 #[.slice la D.length lc, .int .i64 n] (by kernel_rfl) (by kernel_rfl) (by kernel_rfl) ?_
    refine (hsF _ (hT.below hW)).mono ?_
    rintro e v10 ⟨zb, zc, rfl, o9, hb9⟩
    replace hW := hW.trans (hb9.mono hW.size)
    replace hY := hY.below hb9
    have hZ : ActRow v10 zb fz := Lies.own o9
    clear o9
    clear hb9
    refine ⟨_, rfl, ⟨⟨_, hW⟩, rfl⟩, ?_⟩
    simp only [Act.put, List.setIfInBounds_toArray, List.set_cons_zero, List.set_cons_succ]
    refine seg_range [(54, 1)] 20 (by kernel_rfl) (by kernel_rfl) (by kernel_rfl) (by kernel_rfl) (by kernel_rfl) ⟨⟨_, hW⟩, rfl⟩ ?_
    simp only [pickR, List.toList_toArray, List.flatMap_cons, List.flatMap_nil, List.drop_succ_cons, List.drop_zero, List.take_succ_cons, List.take_zero, List.cons_append, List.nil_append, List.append_nil]
    repeat go_big_quiet_step (fail)
    refine wpQuiet_nil ?_
    refine two_at 50 55 19 (by kernel_rfl) (by kernel_rfl) ?_ ?_
    · skip
      refine op_g 50 _ rfl (by kernel_rfl) ?_
      have hb9 : Below v10.heap.size v10 (v10.alloc (.cells #[.int .i64 fi, .int .i64 fs, .int .i64 fq, .slice fa fz.length fc] 27)) := by go_grown
      have B1 := Blk.new v10 27 #[.int .i64 fi, .int .i64 fs, .int .i64 fq, .slice fa fz.length fc]
      replace hW := hW.trans (hb9.mono hW.size)
      replace hY := hY.below hb9
      replace hZ := hZ.below hb9
      go_wp2
      refine ThenGo.to ⟨⟨⟨_, hW⟩, rfl⟩, ?_⟩
      generalize v10.alloc (.cells #[.int .i64 fi, .int .i64 fs, .int .i64 fq, .slice fa fz.length fc] 27) = z11 at hb9 hW B1 hY hZ ⊢
      clear hb9
      generalize v10.heap.size = g1 at B1 ⊢
      refine one_g 55 _ 18 (by kernel_rfl) rfl (by kernel_rfl) (by kernel_rfl) ?_
      have hb9 : Below z11.heap.size z11 (z11.alloc (.cells #[.int .i64 fi, .int .i64 fs, .int .i64 fq, .slice zb fz.length zc] 27)) := by go_grown
      have B2 := Blk.new z11 27 #[.int .i64 fi, .int .i64 fs, .int .i64 fq, .slice zb fz.length zc]
      replace hW := hW.trans (hb9.mono hW.size)
      replace hY := hY.below hb9
      replace hZ := hZ.below hb9
      replace B1 := B1.below hb9
      go_wp2
      refine ThenGo.to ⟨⟨⟨_, hW⟩, rfl⟩, ?_⟩
      generalize z11.alloc (.cells #[.int .i64 fi, .int .i64 fs, .int .i64 fq, .slice zb fz.length zc] 27) = z12 at hb9 hW B2 hY hZ B1 ⊢
      clear hb9
      generalize z11.heap.size = g2 at B2 ⊢
      refine call_at 56 (some 87) 16 #[.slice (some ⟨g1, 0, none⟩) 1 1, .slice (some ⟨g2, 0, none⟩) 1 1] 17 (by kernel_rfl) (by kernel_rfl) (by kernel_rfl) (by kernel_rfl) (by kernel_rfl) ?_
      refine (implSameTxns_any _ _ [⟨fi, fs, fq, fz⟩] [⟨fi, fs, fq, fz⟩] _ (txn_one B1 (hFr.below hW)) (txn_one B2 hZ) (by simp [sumA]; omega) (by simp [sumA]; omega)).mono ?_
      rintro e v13 ⟨hs9, hb9⟩
      replace hW := hW.trans (hb9.mono hW.size)
      replace hY := hY.below hb9
      replace hZ := hZ.below hb9
      replace B1 := B1.below hb9
      replace B2 := B2.below hb9
      rw [sameT_one] at hs9
      subst hs9
      clear hb9
      refine ⟨_, rfl, ⟨⟨_, hW⟩, rfl⟩, ?_⟩
      simp only [Act.put, List.setIfInBounds_toArray, List.set_cons_zero, List.set_cons_succ]
      refine seg_range [(57, 11), (69, 1)] 5 (by kernel_rfl) (by kernel_rfl) (by kernel_rfl) (by kernel_rfl) (by kernel_rfl) ⟨⟨_, hW⟩, rfl⟩ ?_
      simp only [pickR, List.toList_toArray, List.flatMap_cons, List.flatMap_nil, List.drop_succ_cons, List.drop_zero, List.take_succ_cons, List.take_zero, List.cons_append, List.nil_append, List.append_nil]
      repeat go_big_quiet_step (fail)
      refine wpQuiet_nil ?_
      refine quiet_at 68 (some 99) (.int .i64 iL.length) 4 (by kernel_rfl) (by kernel_rfl) (by kernel_rfl) (by kernel_rfl) (by kernel_rfl) (fun u _ => by kernel_rfl) ⟨⟨_, hW⟩, rfl⟩ ?_
      simp only [Act.put, List.setIfInBounds_toArray, List.set_cons_zero, List.set_cons_succ]
      refine quiet_at 70 (some 101) (.int .i64 D.length) 3 (by kernel_rfl) (by kernel_rfl) (by kernel_rfl) (by kernel_rfl) (by kernel_rfl) (fun u _ => by kernel_rfl) ⟨⟨_, hW⟩, rfl⟩ ?_
      simp only [Act.put, List.setIfInBounds_toArray, List.set_cons_zero, List.set_cons_succ]
      refine seg_range [(71, 3)] 0 (by kernel_rfl) (by kernel_rfl) (by kernel_rfl) (by kernel_rfl) (by kernel_rfl) ⟨⟨_, hW⟩, rfl⟩ ?_
      simp only [pickR, List.toList_toArray, List.flatMap_cons, List.flatMap_nil, List.drop_succ_cons, List.drop_zero, List.take_succ_cons, List.take_zero, List.cons_append, List.nil_append, List.append_nil]
      repeat go_big_quiet_step (fail)
      refine wpQuiet_nil ?_
      refine text_end (by kernel_rfl) ?_
      exact CutQ.mk rfl rfl rfl (Nat.le_of_ble_eq_true (by kernel_rfl)) hW
    · skip
      refine op_g 55 _ rfl (by kernel_rfl) ?_
      have hb9 : Below v10.heap.size v10 (v10.alloc (.cells #[.int .i64 fi, .int .i64 fs, .int .i64 fq, .slice zb fz.length zc] 27)) := by go_grown
      have B2 := Blk.new v10 27 #[.int .i64 fi, .int .i64 fs, .int .i64 fq, .slice zb fz.length zc]
      replace hW := hW.trans (hb9.mono hW.size)
      replace hY := hY.below hb9
      replace hZ := hZ.below hb9
      go_wp2
      refine ThenGo.to ⟨⟨⟨_, hW⟩, rfl⟩, ?_⟩
      generalize v10.alloc (.cells #[.int .i64 fi, .int .i64 fs, .int .i64 fq, .slice zb fz.length zc] 27) = z14 at hb9 hW B2 hY hZ ⊢
      clear hb9
      generalize v10.heap.size = g2 at B2 ⊢
      refine one_g 50 _ 18 (by kernel_rfl) rfl (by kernel_rfl) (by kernel_rfl) ?_
      have hb9 : Below z14.heap.size z14 (z14.alloc (.cells #[.int .i64 fi, .int .i64 fs, .int .i64 fq, .slice fa fz.length fc] 27)) := by go_grown
      have B1 := Blk.new z14 27 #[.int .i64 fi, .int .i64 fs, .int .i64 fq, .slice fa fz.length fc]
      replace hW := hW.trans (hb9.mono hW.size)
      replace hY := hY.below hb9
      replace hZ := hZ.below hb9
      replace B2 := B2.below hb9
      go_wp2
      refine ThenGo.to ⟨⟨⟨_, hW⟩, rfl⟩, ?_⟩
      generalize z14.alloc (.cells #[.int .i64 fi, .int .i64 fs, .int .i64 fq, .slice fa fz.length fc] 27) = z15 at hb9 hW B1 hY hZ B2 ⊢
      clear hb9
      generalize z14.heap.size = g1 at B1 ⊢
      refine call_at 56 (some 87) 16 #[.slice (some ⟨g1, 0, none⟩) 1 1, .slice (some ⟨g2, 0, none⟩) 1 1] 17 (by kernel_rfl) (by kernel_rfl) (by kernel_rfl) (by kernel_rfl) (by kernel_rfl) ?_
      refine (implSameTxns_any _ _ [⟨fi, fs, fq, fz⟩] [⟨fi, fs, fq, fz⟩] _ (txn_one B1 (hFr.below hW)) (txn_one B2 hZ) (by simp [sumA]; omega) (by simp [sumA]; omega)).mono ?_
      rintro e v16 ⟨hs9, hb9⟩
      replace hW := hW.trans (hb9.mono hW.size)
      replace hY := hY.below hb9
      replace hZ := hZ.below hb9
      replace B2 := B2.below hb9
      replace B1 := B1.below hb9
      rw [sameT_one] at hs9
      subst hs9
      clear hb9
      refine ⟨_, rfl, ⟨⟨_, hW⟩, rfl⟩, ?_⟩
      simp only [Act.put, List.setIfInBounds_toArray, List.set_cons_zero, List.set_cons_succ]
      refine seg_range [(57, 11), (69, 1)] 5 (by kernel_rfl) (by kernel_rfl) (by kernel_rfl) (by kernel_rfl) (by kernel_rfl) ⟨⟨_, hW⟩, rfl⟩ ?_
      simp only [pickR, List.toList_toArray, List.flatMap_cons, List.flatMap_nil, List.drop_succ_cons, List.drop_zero, List.take_succ_cons, List.take_zero, List.cons_append, List.nil_append, List.append_nil]
      repeat go_big_quiet_step (fail)
      refine wpQuiet_nil ?_
      refine quiet_at 68 (some 99) (.int .i64 iL.length) 4 (by kernel_rfl) (by kernel_rfl) (by kernel_rfl) (by kernel_rfl) (by kernel_rfl) (fun u _ => by kernel_rfl) ⟨⟨_, hW⟩, rfl⟩ ?_
      simp only [Act.put, List.setIfInBounds_toArray, List.set_cons_zero, List.set_cons_succ]
      refine quiet_at 70 (some 101) (.int .i64 D.length) 3 (by kernel_rfl) (by kernel_rfl) (by kernel_rfl) (by kernel_rfl) (by kernel_rfl) (fun u _ => by kernel_rfl) ⟨⟨_, hW⟩, rfl⟩ ?_
      simp only [Act.put, List.setIfInBounds_toArray, List.set_cons_zero, List.set_cons_succ]
      refine seg_range [(71, 3)] 0 (by kernel_rfl) (by kernel_rfl) (by kernel_rfl) (by kernel_rfl) (by kernel_rfl) ⟨⟨_, hW⟩, rfl⟩ ?_
      simp only [pickR, List.toList_toArray, List.flatMap_cons, List.flatMap_nil, List.drop_succ_cons, List.drop_zero, List.take_succ_cons, List.take_zero, List.cons_append, List.nil_append, List.append_nil]
      repeat go_big_quiet_step (fail)
      refine wpQuiet_nil ?_
      refine text_end (by kernel_rfl) ?_
      exact CutQ.mk rfl rfl rfl (Nat.le_of_ble_eq_true (by kernel_rfl)) hW

end Go.Proofs.YtjaoggkpnjkkpaaDoor

namespace Go.Proofs.YtjaoggkpnjkkpaaDoor
open Go.RowKit
open Go.BigFrame
set_option linter.unusedVariables false
set_option linter.unusedSimpArgs false

set_option maxRecDepth 1000000 in
set_option maxHeartbeats 8000000 in
theorem txnReg110 (b0 ua la fa ia : Option Addr) (k0 uc lc fc ic B4 B9 B10 : Nat) (ds iL : List Int) (D : List TxnD) (uz fz : List ActD) (uC ui us uq n fC fi fs fq iC cP : Int) (x0 x1 x2 x5 x6 x11 x12 x13 x14 x15 x16 x17 x18 x19 x20 x21 x22 x23 x24 x25 x26 x27 x28 x29 x30 : Value) (W : World) (hd0 : Row .u8 W b0 ds) (hU : ActRow W ua uz) (hT : TxnsAt W (.slice la D.length lc) D) (hFr : ActRow W fa fz) (hdl : ds.length ≤ 1000) (hs5 : sumA D ≤ 305) (hfl : fz.length ≤ sumA D)
    (Bu : Blk W B4 29 #[.int .i64 uC, .int .i64 ui, .int .i64 us, .int .i64 uq, .slice ua uz.length uc]) (Bf : Blk W B9 29 #[.int .i64 fC, .int .i64 fi, .int .i64 fs, .int .i64 fq, .slice fa fz.length fc]) (Bi : Blk W B10 41 #[.int .i64 iC, .slice ia iL.length ic])
    (hsR : ∀ w : World, Row .u8 w b0 ds → Calls Tryd.prog 12 #[.slice b0 ds.length k0] w fun e w' => ∃ b c, e = .returned (.agg #[.int .i64 uC, .int .i64 ui, .int .i64 us, .int .i64 uq, .slice b uz.length c]) ∧ w'.ownsRow w.heap.size 54 3 (.slice b uz.length c) uz.length (actCells uz) ∧ Below w.heap.size w w')
    (hsF : ∀ w : World, TxnsAt w (.slice la D.length lc) D → Calls Tryd.prog 14 #[.slice la D.length lc, .int .i64 n] w fun e w' => ∃ b c, e = .returned (.agg #[.int .i64 fC, .int .i64 fi, .int .i64 fs, .int .i64 fq, .slice b fz.length c]) ∧ w'.ownsRow w.heap.size 54 3 (.slice b fz.length c) fz.length (actCells fz) ∧ Below w.heap.size w w')
    (hsI : ∀ w : World, TxnsAt w (.slice la D.length lc) D → Calls Tryd.prog 15 #[.slice la D.length lc] w fun e w' => ∃ b c, e = .returned (.agg #[.int .i64 iC, .slice b iL.length c]) ∧ w'.ownsRow w.heap.size 2 1 (.slice b iL.length c) iL.length (iL.map (Value.int .i64)) ∧ Below w.heap.size w w')
    (hPu : uC = 0 → ∀ w : World, ActRow w ua uz → Calls Tryd.prog 8 #[.agg #[.int .i64 ui, .int .i64 us, .int .i64 uq, .slice ua uz.length uc]] w fun e w' => ∃ b c, e = .returned (.agg #[.int .i64 cP, .slice b ds.length c]) ∧ w'.ownsRow w.heap.size 5 1 (.slice b ds.length c) ds.length (ds.map (Value.int .u8)) ∧ Below w.heap.size w w')
    (hFI : fC = 0 → fi = n) (hII : iC = 0 → iL.length = D.length) (hu0 : uC = 0) (hf0' : fC = 0) (hi0 : ¬ iC = 0) :
    Code.wp Tryd.prog ((Tryd.f3.body.bind (regNo 10)).getD .skip) (CutQ ⟨#[x0, x1, x2, .slice b0 ds.length k0, .pointer (some ⟨B4, 0, none⟩), x5, x6, .slice la D.length lc, .int .i64 n, .pointer (some ⟨B9, 0, none⟩), .pointer (some ⟨B10, 0, none⟩), x11, x12, x13, x14, x15, x16, x17, x18, x19, x20, x21, x22, x23, x24, x25, x26, x27, x28, x29, x30, undef, undef, undef, undef, undef, undef, undef, undef, undef, undef, undef, undef, undef, undef, undef, undef, undef, undef, undef, undef, undef, undef, undef, undef, undef, undef, undef, undef, undef, undef, undef, undef, undef, undef, undef, undef, undef, undef, undef, undef, undef, undef, undef, undef, undef, undef, undef, undef, undef, undef, undef, undef, undef, undef, undef, undef, undef, undef, undef, undef, undef, undef, undef, undef, undef, undef, undef, undef, undef, undef, undef, undef, undef, undef, undef, undef, undef, undef, undef, undef, undef, undef, undef, undef, undef, undef, undef, undef, undef, undef, undef, undef, undef, undef, undef, undef, undef, undef, undef, undef, undef, undef, undef, undef, undef], []⟩ 31 73 (.bool false) (fun w' => Below W.heap.size W w')) ⟨#[x0, x1, x2, .slice b0 ds.length k0, .pointer (some ⟨B4, 0, none⟩), x5, x6, .slice la D.length lc, .int .i64 n, .pointer (some ⟨B9, 0, none⟩), .pointer (some ⟨B10, 0, none⟩), x11, x12, x13, x14, x15, x16, x17, x18, x19, x20, x21, x22, x23, x24, x25, x26, x27, x28, x29, x30, undef, undef, undef, undef, undef, undef, undef, undef, undef, undef, undef, undef, undef, undef, undef, undef, undef, undef, undef, undef, undef, undef, undef, undef, undef, undef, undef, undef, undef, undef, undef, undef, undef, undef, undef, undef, undef, undef, undef, undef, undef, undef, undef, undef, undef, undef, undef, undef, undef, undef, undef, undef, undef, undef, undef, undef, undef, undef, undef, undef, undef, undef, undef, undef, undef, undef, undef, undef, undef, undef, undef, undef, undef, undef, undef, undef, undef, undef, undef, undef, undef, undef, undef, undef, undef, undef, undef, undef, undef, undef, undef, undef, undef, undef, undef, undef, undef, undef, undef, undef, undef, undef, undef, undef, undef], []⟩ W := by
  replace hPu := hPu hu0
  have ku : (uC == 0) = true := by simp [hu0]
  have kf : (fC == 0) = true := by simp [hf0']
  have kid : (fi != n) = false := by simp [hFI hf0']
  have ki : (iC == 0) = false := by simpa using hi0
  clear hu0 hf0' hi0 hFI hII
  have n1 : (uC != uC) = false := by simp
  have n2 : (fC != fC) = false := by simp
  have n3 : (iC != iC) = false := by simp
  have hf0 := fieldT0
  have hf1 := fieldT1
  have hf2 := fieldB0
  have hf3 := fieldB1
  have hf4 := fieldN0
  conv => arg 2; whnf
  simp only [List.append_eq, List.cons_append, List.nil_append]
  have hW : Below W.heap.size W W.drew := (Below.refl _ _).drew
  have hnn : Nonempty (Lat W) := ⟨⟨W, Below.refl _ _⟩⟩
  have x0 := Bu.lat 0 _ rfl
  have x1 := Bu.lat 1 _ rfl
  have x2 := Bu.lat 2 _ rfl
  have x3 := Bu.lat 3 _ rfl
  have x4 := Bu.lat 4 _ rfl
  have y0 := Bf.lat 0 _ rfl
  have y1 := Bf.lat 1 _ rfl
  have y2 := Bf.lat 2 _ rfl
  have y3 := Bf.lat 3 _ rfl
  have y4 := Bf.lat 4 _ rfl
  have z0 := Bi.lat 0 _ rfl
  have z1 := Bi.lat 1 _ rfl
  refine text_begin (S := fun w' => ∃ u : Lat W, w' = u.val) (by kernel_rfl) ?_
  have hsd : Hid (True) := trivial
  generalize W.drew = wd at hW ⊢
  refine seg_range [(0, 3)] 71 (by kernel_rfl) (by kernel_rfl) (by kernel_rfl) (by kernel_rfl) (by kernel_rfl) ⟨⟨_, hW⟩, rfl⟩ ?_
  simp only [pickR, List.toList_toArray, List.flatMap_cons, List.flatMap_nil, List.drop_succ_cons, List.drop_zero, List.take_succ_cons, List.take_zero, List.cons_append, List.nil_append, List.append_nil]
  repeat go_big_quiet_step (fail)
  refine wpQuiet_nil ?_
  refine call_at 3 (some 34) 12 #[.slice b0 ds.length k0] 70 (by kernel_rfl) (by kernel_rfl) (by kernel_rfl) (by kernel_rfl) (by kernel_rfl) ?_
  refine (hsR _ (hd0.below hW)).mono ?_
  rintro e v1 ⟨xb, xc, rfl, o9, hb9⟩
  replace hW := hW.trans (hb9.mono hW.size)
  clear o9
  clear hb9
  refine ⟨_, rfl, ⟨⟨_, hW⟩, rfl⟩, ?_⟩
  simp only [Act.put, List.setIfInBounds_toArray, List.set_cons_zero, List.set_cons_succ]
  refine seg_range [(4, 9), (15, 1)] 60 (by kernel_rfl) (by kernel_rfl) (by kernel_rfl) (by kernel_rfl) (by kernel_rfl) ⟨⟨_, hW⟩, rfl⟩ ?_
  simp only [pickR, List.toList_toArray, List.flatMap_cons, List.flatMap_nil, List.drop_succ_cons, List.drop_zero, List.take_succ_cons, List.take_zero, List.cons_append, List.nil_append, List.append_nil]
  repeat go_big_quiet_step (fail)
  refine wpQuiet_nil ?_
  refine call_at 13 (some 44) 8 #[.agg #[.int .i64 ui, .int .i64 us, .int .i64 uq, .slice ua uz.length uc]] 59 (by kernel_rfl) (by kernel_rfl) (by kernel_rfl) (by kernel_rfl) (by kernel_rfl) ?_
  refine (hPu _ (hU.below hW)).mono ?_
  rintro e v2 ⟨yb, yc, rfl, o9, hb9⟩
  replace hW := hW.trans (hb9.mono hW.size)
  have hY : Row .u8 v2 yb ds := Row.own o9
  clear o9
  clear hb9
  refine ⟨_, rfl, ⟨⟨_, hW⟩, rfl⟩, ?_⟩
  simp only [Act.put, List.setIfInBounds_toArray, List.set_cons_zero, List.set_cons_succ]
  refine seg_range [(14, 1)] 58 (by kernel_rfl) (by kernel_rfl) (by kernel_rfl) (by kernel_rfl) (by kernel_rfl) ⟨⟨_, hW⟩, rfl⟩ ?_
  simp only [pickR, List.toList_toArray, List.flatMap_cons, List.flatMap_nil, List.drop_succ_cons, List.drop_zero, List.take_succ_cons, List.take_zero, List.cons_append, List.nil_append, List.append_nil]
  repeat go_big_quiet_step (fail)
  refine wpQuiet_nil ?_
  refine call_at 16 (some 47) 13 #[.slice yb ds.length yc, .slice b0 ds.length k0] 57 (by kernel_rfl) (by kernel_rfl) (by kernel_rfl) (by kernel_rfl) (by kernel_rfl) ?_
  refine (lwBytesB _ _ _ _ ds _ hY (hd0.below hW) (by omega)).mono ?_
  rintro e v3 ⟨rfl, hb9⟩
  replace hW := hW.trans (hb9.mono hW.size)
  replace hY := hY.below hb9
  clear hb9
  refine ⟨_, rfl, ⟨⟨_, hW⟩, rfl⟩, ?_⟩
  simp only [Act.put, List.setIfInBounds_toArray, List.set_cons_zero, List.set_cons_succ]
  refine seg_range [(17, 8)] 49 (by kernel_rfl) (by kernel_rfl) (by kernel_rfl) (by kernel_rfl) (by kernel_rfl) ⟨⟨_, hW⟩, rfl⟩ ?_
  simp only [pickR, List.toList_toArray, List.flatMap_cons, List.flatMap_nil, List.drop_succ_cons, List.drop_zero, List.take_succ_cons, List.take_zero, List.cons_append, List.nil_append, List.append_nil]
  repeat go_big_quiet_step (fail)
  refine wpQuiet_nil ?_
  refine call_at 25 (some 56) 14 #[.slice la D.length lc, .int .i64 n] 48 (by kernel_rfl) (by kernel_rfl) (by kernel_rfl) (by kernel_rfl) (by kernel_rfl) ?_
  refine (hsF _ (hT.below hW)).mono ?_
  rintro e v4 ⟨zb0, zc0, rfl, o9, hb9⟩
  replace hW := hW.trans (hb9.mono hW.size)
  replace hY := hY.below hb9
  clear o9
  clear hb9
  refine ⟨_, rfl, ⟨⟨_, hW⟩, rfl⟩, ?_⟩
  simp only [Act.put, List.setIfInBounds_toArray, List.set_cons_zero, List.set_cons_succ]
  refine seg_range [(26, 7)] 41 (by kernel_rfl) (by kernel_rfl) (by kernel_rfl) (by kernel_rfl) (by kernel_rfl) ⟨⟨_, hW⟩, rfl⟩ ?_
  simp only [pickR, List.toList_toArray, List.flatMap_cons, List.flatMap_nil, List.drop_succ_cons, List.drop_zero, List.take_succ_cons, List.take_zero, List.cons_append, List.nil_append, List.append_nil]
  repeat go_big_quiet_step (fail)
  refine wpQuiet_nil ?_
  refine call_at 33 (some 64) 15 #[.slice la D.length lc] 40 (by kernel_rfl) (by kernel_rfl) (by kernel_rfl) (by kernel_rfl) (by kernel_rfl) ?_
  refine (hsI _ (hT.below hW)).mono ?_
  rintro e v5 ⟨jb, jc, rfl, o9, hb9⟩
  replace hW := hW.trans (hb9.mono hW.size)
  replace hY := hY.below hb9
  clear o9
  clear hb9
  refine ⟨_, rfl, ⟨⟨_, hW⟩, rfl⟩, ?_⟩
  simp only [Act.put, List.setIfInBounds_toArray, List.set_cons_zero, List.set_cons_succ]
  refine seg_range [(34, 16), (51, 2)] 22 (by kernel_rfl) (by kernel_rfl) (by kernel_rfl) (by kernel_rfl) (by kernel_rfl) ⟨⟨_, hW⟩, rfl⟩ ?_
  simp only [pickR, List.toList_toArray, List.flatMap_cons, List.flatMap_nil, List.drop_succ_cons, List.drop_zero, List.take_succ_cons, List.take_zero, List.cons_append, List.nil_append, List.append_nil]
  repeat go_big_quiet_step (fail)
  refine wpQuiet_nil ?_
  refine two_at 50 53 21 (by kernel_rfl) (by kernel_rfl) ?_ ?_
  · skip
    refine op_g 50 _ rfl (by kernel_rfl) ?_
    have hb9 : Below v5.heap.size v5 (v5.alloc (.cells #[.int .i64 fi, .int .i64 fs, .int .i64 fq, .slice fa fz.length fc] 27)) := by go_grown
    have B1 := Blk.new v5 27 #[.int .i64 fi, .int .i64 fs, .int .i64 fq, .slice fa fz.length fc]
    replace hW := hW.trans (hb9.mono hW.size)
    replace hY := hY.below hb9
    go_wp2
    refine ThenGo.to ⟨⟨⟨_, hW⟩, rfl⟩, ?_⟩
    generalize v5.alloc (.cells #[.int .i64 fi, .int .i64 fs, .int .i64 fq, .slice fa fz.length fc] 27) = z6 at hb9 hW B1 hY ⊢
    clear hb9
    generalize v5.heap.size = g1 at B1 ⊢
    refine call_at 53 (some 84) 14 #[.slice la D.length lc, .int .i64 n] 20 (by kernel_rfl) (by kernel_rfl) (by kernel_rfl) (by kernel_rfl) (by kernel_rfl) ?_
    refine (hsF _ (hT.below hW)).mono ?_
    rintro e v7 ⟨zb, zc, rfl, o9, hb9⟩
    replace hW := hW.trans (hb9.mono hW.size)
    replace hY := hY.below hb9
    replace B1 := B1.below hb9
    have hZ : ActRow v7 zb fz := Lies.own o9
    clear o9
    clear hb9
    refine ⟨_, rfl, ⟨⟨_, hW⟩, rfl⟩, ?_⟩
    simp only [Act.put, List.setIfInBounds_toArray, List.set_cons_zero, List.set_cons_succ]
    refine seg_range [(54, 1)] 19 (by kernel_rfl) (by kernel_rfl) (by kernel_rfl) (by kernel_rfl) (by kernel_rfl) ⟨⟨_, hW⟩, rfl⟩ ?_
    simp only [pickR, List.toList_toArray, List.flatMap_cons, List.flatMap_nil, List.drop_succ_cons, List.drop_zero, List.take_succ_cons, List.take_zero, List.cons_append, List.nil_append, List.append_nil]
    repeat go_big_quiet_step (fail)
    refine wpQuiet_nil ?_
    refine one_g 55 _ 18 (by kernel_rfl) rfl (by kernel_rfl) (by kernel_rfl) ?_
    have hb9 : Below v7.heap.size v7 (v7.alloc (.cells #[.int .i64 fi, .int .i64 fs, .int .i64 fq, .slice zb fz.length zc] 27)) := by go_grown
    have B2 := Blk.new v7 27 #[.int .i64 fi, .int .i64 fs, .int .i64 fq, .slice zb fz.length zc]
    replace hW := hW.trans (hb9.mono hW.size)
    replace hY := hY.below hb9
    replace B1 := B1.below hb9
    replace hZ := hZ.below hb9
    go_wp2
    refine ThenGo.to ⟨⟨⟨_, hW⟩, rfl⟩, ?_⟩
    generalize v7.alloc (.cells #[.int .i64 fi, .int .i64 fs, .int .i64 fq, .slice zb fz.length zc] 27) = z8 at hb9 hW B2 hY B1 hZ ⊢
    clear hb9
    generalize v7.heap.size = g2 at B2 ⊢
    refine call_at 56 (some 87) 16 #[.slice (some ⟨g1, 0, none⟩) 1 1, .slice (some ⟨g2, 0, none⟩) 1 1] 17 (by kernel_rfl) (by kernel_rfl) (by kernel_rfl) (by kernel_rfl) (by kernel_rfl) ?_
    refine (implSameTxns_any _ _ [⟨fi, fs, fq, fz⟩] [⟨fi, fs, fq, fz⟩] _ (txn_one B1 (hFr.below hW)) (txn_one B2 hZ) (by simp [sumA]; omega) (by simp [sumA]; omega)).mono ?_
    rintro e v9 ⟨hs9, hb9⟩
    replace hW := hW.trans (hb9.mono hW.size)
    replace hY := hY.below hb9
    replace B1 := B1.below hb9
    replace hZ := hZ.below hb9
    replace B2 := B2.below hb9
    rw [sameT_one] at hs9
    subst hs9
    clear hb9
    refine ⟨_, rfl, ⟨⟨_, hW⟩, rfl⟩, ?_⟩
    simp only [Act.put, List.setIfInBounds_toArray, List.set_cons_zero, List.set_cons_succ]
    refine seg_range [(57, 11), (69, 1)] 5 (by kernel_rfl) (by kernel_rfl) (by kernel_rfl) (by kernel_rfl) (by kernel_rfl) ⟨⟨_, hW⟩, rfl⟩ ?_
    simp only [pickR, List.toList_toArray, List.flatMap_cons, List.flatMap_nil, List.drop_succ_cons, List.drop_zero, List.take_succ_cons, List.take_zero, List.cons_append, List.nil_append, List.append_nil]
    repeat go_big_quiet_step (fail)
    refine wpQuiet_nil ?_
    refine skip_at 68 (some 99) 4 (by kernel_rfl) (by kernel_rfl) (by kernel_rfl) (by kernel_rfl) (by kernel_rfl) ⟨⟨_, hW⟩, rfl⟩ ?_
    simp only [Act.put, List.setIfInBounds_toArray, List.set_cons_zero, List.set_cons_succ]
    refine skip_at 70 (some 101) 3 (by kernel_rfl) (by kernel_rfl) (by kernel_rfl) (by kernel_rfl) (by kernel_rfl) ⟨⟨_, hW⟩, rfl⟩ ?_
    simp only [Act.put, List.setIfInBounds_toArray, List.set_cons_zero, List.set_cons_succ]
    refine seg_range [(71, 3)] 0 (by kernel_rfl) (by kernel_rfl) (by kernel_rfl) (by kernel_rfl) (by kernel_rfl) ⟨⟨_, hW⟩, rfl⟩ ?_
    simp only [pickR, List.toList_toArray, List.flatMap_cons, List.flatMap_nil, List.drop_succ_cons, List.drop_zero, List.take_succ_cons, List.take_zero, List.cons_append, List.nil_append, List.append_nil]
    repeat go_big_quiet_step (fail)
    refine wpQuiet_nil ?_
    refine text_end (by kernel_rfl) ?_
    exact CutQ.mk rfl rfl rfl (Nat.le_of_ble_eq_true (by kernel_rfl)) hW
  · skip
    refine op_call 53 (some 84) 14 #[.slice la D.length lc, .int .i64 n] (by kernel_rfl) (by kernel_rfl) (by kernel_rfl) ?_
    refine (hsF _ (hT.below hW)).mono ?_
    rintro e v10 ⟨zb, zc, rfl, o9, hb9⟩
    replace hW := hW.trans (hb9.mono hW.size)
    replace hY := hY.below hb9
    have hZ : ActRow v10 zb fz := Lies.own o9
    clear o9
    clear hb9
    refine ⟨_, rfl, ⟨⟨_, hW⟩, rfl⟩, ?_⟩
    simp only [Act.put, List.setIfInBounds_toArray, List.set_cons_zero, List.set_cons_succ]
    refine seg_range [(54, 1)] 20 (by kernel_rfl) (by kernel_rfl) (by kernel_rfl) (by kernel_rfl) (by kernel_rfl) ⟨⟨_, hW⟩, rfl⟩ ?_
    simp only [pickR, List.toList_toArray, List.flatMap_cons, List.flatMap_nil, List.drop_succ_cons, List.drop_zero, List.take_succ_cons, List.take_zero, List.cons_append, List.nil_append, List.append_nil]
    repeat go_big_quiet_step (fail)
    refine wpQuiet_nil ?_
    refine two_at 50 55 19 (by kernel_rfl) (by kernel_rfl) ?_ ?_
    · skip
      refine op_g 50 _ rfl (by kernel_rfl) ?_
      have hb9 : Below v10.heap.size v10 (v10.alloc (.cells #[.int .i64 fi, .int .i64 fs, .int .i64 fq, .slice fa fz.length fc] 27)) := by go_grown
      have B1 := Blk.new v10 27 #[.int .i64 fi, .int .i64 fs, .int .i64 fq, .slice fa fz.length fc]
      replace hW := hW.trans (hb9.mono hW.size)
      replace hY := hY.below hb9
      replace hZ := hZ.below hb9
      go_wp2
      refine ThenGo.to ⟨⟨⟨_, hW⟩, rfl⟩, ?_⟩
      generalize v10.alloc (.cells #[.int .i64 fi, .int .i64 fs, .int .i64 fq, .slice fa fz.length fc] 27) = z11 at hb9 hW B1 hY hZ ⊢
      clear hb9
      generalize v10.heap.size = g1 at B1 ⊢
      refine one_g 55 _ 18 (by kernel_rfl) rfl (by kernel_rfl) (by kernel_rfl) ?_
      have hb9 : Below z11.heap.size z11 (z11.alloc (.cells #[.int .i64 fi, .int .i64 fs, .int .i64 fq, .slice zb fz.length zc] 27)) := by go_grown
      have B2 := Blk.new z11 27 #[.int .i64 fi, .int .i64 fs, .int .i64 fq, .slice zb fz.length zc]
      replace hW := hW.trans (hb9.mono hW.size)
      replace hY := hY.below hb9
      replace hZ := hZ.below hb9
      replace B1 := B1.below hb9
      go_wp2
      refine ThenGo.to ⟨⟨⟨_, hW⟩, rfl⟩, ?_⟩
      generalize z11.alloc (.cells #[.int .i64 fi, .int .i64 fs, .int .i64 fq, .slice zb fz.length zc] 27) = z12 at hb9 hW B2 hY hZ B1 ⊢
      clear hb9
      generalize z11.heap.size = g2 at B2 ⊢
      refine call_at 56 (some 87) 16 #[.slice (some ⟨g1, 0, none⟩) 1 1, .slice (some ⟨g2, 0, none⟩) 1 1] 17 (by kernel_rfl) (by kernel_rfl) (by kernel_rfl) (by kernel_rfl) (by kernel_rfl) ?_
      refine (implSameTxns_any _ _ [⟨fi, fs, fq, fz⟩] [⟨fi, fs, fq, fz⟩] _ (txn_one B1 (hFr.below hW)) (txn_one B2 hZ) (by simp [sumA]; omega) (by simp [sumA]; omega)).mono ?_
      rintro e v13 ⟨hs9, hb9⟩
      replace hW := hW.trans (hb9.mono hW.size)
      replace hY := hY.below hb9
      replace hZ := hZ.below hb9
      replace B1 := B1.below hb9
      replace B2 := B2.below hb9
      rw [sameT_one] at hs9
      subst hs9
      clear hb9
      refine ⟨_, rfl, ⟨⟨_, hW⟩, rfl⟩, ?_⟩
      simp only [Act.put, List.setIfInBounds_toArray, List.set_cons_zero, List.set_cons_succ]
      refine seg_range [(57, 11), (69, 1)] 5 (by kernel_rfl) (by kernel_rfl) (by kernel_rfl) (by kernel_rfl) (by kernel_rfl) ⟨⟨_, hW⟩, rfl⟩ ?_
      simp only [pickR, List.toList_toArray, List.flatMap_cons, List.flatMap_nil, List.drop_succ_cons, List.drop_zero, List.take_succ_cons, List.take_zero, List.cons_append, List.nil_append, List.append_nil]
      repeat go_big_quiet_step (fail)
      refine wpQuiet_nil ?_
      refine skip_at 68 (some 99) 4 (by kernel_rfl) (by kernel_rfl) (by kernel_rfl) (by kernel_rfl) (by kernel_rfl) ⟨⟨_, hW⟩, rfl⟩ ?_
      simp only [Act.put, List.setIfInBounds_toArray, List.set_cons_zero, List.set_cons_succ]
      refine skip_at 70 (some 101) 3 (by kernel_rfl) (by kernel_rfl) (by kernel_rfl) (by kernel_rfl) (by kernel_rfl) ⟨⟨_, hW⟩, rfl⟩ ?_
      simp only [Act.put, List.setIfInBounds_toArray, List.set_cons_zero, List.set_cons_succ]
      refine seg_range [(71, 3)] 0 (by kernel_rfl) (by kernel_rfl) (by kernel_rfl) (by kernel_rfl) (by kernel_rfl) ⟨⟨_, hW⟩, rfl⟩ ?_
      simp only [pickR, List.toList_toArray, List.flatMap_cons, List.flatMap_nil, List.drop_succ_cons, List.drop_zero, List.take_succ_cons, List.take_zero, List.cons_append, List.nil_append, List.append_nil]
      repeat go_big_quiet_step (fail)
      refine wpQuiet_nil ?_
      refine text_end (by kernel_rfl) ?_
      exact CutQ.mk rfl rfl rfl (Nat.le_of_ble_eq_true (by kernel_rfl)) hW
    · skip
      refine op_g 55 _ rfl (by kernel_rfl) ?_
      have hb9 : Below v10.heap.size v10 (v10.alloc (.cells #[.int .i64 fi, .int .i64 fs, .int .i64 fq, .slice zb fz.length zc] 27)) := by go_grown
      have B2 := Blk.new v10 27 #[.int .i64 fi, .int .i64 fs, .int .i64 fq, .slice zb fz.length zc]
      replace hW := hW.trans (hb9.mono hW.size)
      replace hY := hY.below hb9
      replace hZ := hZ.below hb9
      go_wp2
      refine ThenGo.to ⟨⟨⟨_, hW⟩, rfl⟩, ?_⟩
      generalize v10.alloc (.cells #[.int .i64 fi, .int .i64 fs, .int .i64 fq, .slice zb fz.length zc] 27) = z14 at hb9 hW B2 hY hZ ⊢
      clear hb9
      generalize v10.heap.size = g2 at B2 ⊢
      refine one_g 50 _ 18 (by kernel_rfl) rfl (by kernel_rfl) (by kernel_rfl) ?_
      have hb9 : Below z14.heap.size z14 (z14.alloc (.cells #[.int .i64 fi, .int .i64 fs, .int .i64 fq, .slice fa fz.length fc] 27)) := by go_grown
      have B1 := Blk.new z14 27 #[.int .i64 fi, .int .i64 fs, .int .i64 fq, .slice fa fz.length fc]
      replace hW := hW.trans (hb9.mono hW.size)
      replace hY := hY.below hb9
      replace hZ := hZ.below hb9
      replace B2 := B2.below hb9
      go_wp2
      refine ThenGo.to ⟨⟨⟨_, hW⟩, rfl⟩, ?_⟩
      generalize z14.alloc (.cells #[.int .i64 fi, .int .i64 fs, .int .i64 fq, .slice fa fz.length fc] 27) = z15 at hb9 hW B1 hY hZ B2 ⊢
      clear hb9
      generalize z14.heap.size = g1 at B1 ⊢
      refine call_at 56 (some 87) 16 #[.slice (some ⟨g1, 0, none⟩) 1 1, .slice (some ⟨g2, 0, none⟩) 1 1] 17 (by kernel_rfl) (by kernel_rfl) (by kernel_rfl) (by kernel_rfl) (by kernel_rfl) ?_
      refine (implSameTxns_any _ _ [⟨fi, fs, fq, fz⟩] [⟨fi, fs, fq, fz⟩] _ (txn_one B1 (hFr.below hW)) (txn_one B2 hZ) (by simp [sumA]; omega) (by simp [sumA]; omega)).mono ?_
      rintro e v16 ⟨hs9, hb9⟩
      replace hW := hW.trans (hb9.mono hW.size)
      replace hY := hY.below hb9
      replace hZ := hZ.below hb9
      replace B2 := B2.below hb9
      replace B1 := B1.below hb9
      rw [sameT_one] at hs9
      subst hs9
      clear hb9
      refine ⟨_, rfl, ⟨⟨_, hW⟩, rfl⟩, ?_⟩
      simp only [Act.put, List.setIfInBounds_toArray, List.set_cons_zero, List.set_cons_succ]
      refine seg_range [(57, 11), (69, 1)] 5 (by kernel_rfl) (by kernel_rfl) (by kernel_rfl) (by kernel_rfl) (by kernel_rfl) ⟨⟨_, hW⟩, rfl⟩ ?_
      simp only [pickR, List.toList_toArray, List.flatMap_cons, List.flatMap_nil, List.drop_succ_cons, List.drop_zero, List.take_succ_cons, List.take_zero, List.cons_append, List.nil_append, List.append_nil]
      repeat go_big_quiet_step (fail)
      refine wpQuiet_nil ?_
      refine skip_at 68 (some 99) 4 (by kernel_rfl) (by kernel_rfl) (by kernel_rfl) (by kernel_rfl) (by kernel_rfl) ⟨⟨_, hW⟩, rfl⟩ ?_
      simp only [Act.put, List.setIfInBounds_toArray, List.set_cons_zero, List.set_cons_succ]
      refine skip_at 70 (some 101) 3 (by kernel_rfl) (by kernel_rfl) (by kernel_rfl) (by kernel_rfl) (by kernel_rfl) ⟨⟨_, hW⟩, rfl⟩ ?_
      simp only [Act.put, List.setIfInBounds_toArray, List.set_cons_zero, List.set_cons_succ]
      refine seg_range [(71, 3)] 0 (by kernel_rfl) (by kernel_rfl) (by kernel_rfl) (by kernel_rfl) (by kernel_rfl) ⟨⟨_, hW⟩, rfl⟩ ?_
      simp only [pickR, List.toList_toArray, List.flatMap_cons, List.flatMap_nil, List.drop_succ_cons, List.drop_zero, List.take_succ_cons, List.take_zero, List.cons_append, List.nil_append, List.append_nil]
      repeat go_big_quiet_step (fail)
      refine wpQuiet_nil ?_
      refine text_end (by kernel_rfl) ?_
      exact CutQ.mk rfl rfl rfl (Nat.le_of_ble_eq_true (by kernel_rfl)) hW

end Go.Proofs.YtjaoggkpnjkkpaaDoor

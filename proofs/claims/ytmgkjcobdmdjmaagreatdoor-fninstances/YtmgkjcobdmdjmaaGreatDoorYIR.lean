/- Texts joined, with what the law reaches alone. -/
import Derived.Test.YtmgkjcobdmdjmaaGreatDoorYIQ
import Derived.Test.YtmgkjcobdmdjmaaGreatDoorYIA
namespace Go.Proofs.YtmgkjcobdmdjmaaGreatDoor
open Go.RowKit
open Go.BigFrame
set_option linter.unusedVariables false
set_option maxRecDepth 100000
set_option linter.unusedSimpArgs false
set_option maxRecDepth 100000 in
set_option maxHeartbeats 8000000 in
theorem drawPropose_any (a : Option Addr) (cap : Nat) (zs : List Int) (w : World) (h : Row .u8 w a zs) (hu : ∀ i, 0 ≤ zs.getD i 0 ∧ zs.getD i 0 ≤ 255) (hl : zs.length ≤ 1048576) :
  Calls Tryz.prog 15 #[.slice a zs.length cap] w fun e w' => ∃ (q : InstQ) (n1 r1 m1 : Int), e = .returned (.tuple #[.agg #[.bool q.has, q.vb, q.vr, q.vd], .int .i64 n1, .int .i64 r1, .int .i64 m1]) ∧ q.n ≤ 1000 ∧ instK.own w' q ∧ (instK.foot q).Nodup ∧ (∀ k ∈ instK.foot q, w.heap.size ≤ k) ∧ Below w.heap.size w w' := by
 have hb0 : Below w.heap.size w (w.alloc (.cells #[.bool false, .slice none 0 0, .slice none 0 0, .slice none 0 0] 28)) := by go_grown
 have R0 := Blk.new w 28 #[.bool false, .slice none 0 0, .slice none 0 0, .slice none 0 0]
 have hW1 : w.heap.size < (w.alloc (.cells #[.bool false, .slice none 0 0, .slice none 0 0, .slice none 0 0] 28)).heap.size := by simp
 have hby : ∀ i, i < zs.length → ∃ b' off, a = some ⟨b', off, none⟩ ∧ b' < w.heap.size ∧ (w.alloc (.cells #[.bool false, .slice none 0 0, .slice none 0 0, .slice none 0 0] 28)).cell? ⟨b', off + i, none⟩ = some (.int .u8 (zs.getD i 0)) := fun i hi => by
  obtain ⟨b', off, e1, e2, e3⟩ := h i hi
  exact ⟨b', off, e1, e2, cellB e3 hb0⟩
 go_enter Tryz.func15, Tryz.ntmps15
 go_wp2_with fail
 generalize w.alloc (.cells #[.bool false, .slice none 0 0, .slice none 0 0, .slice none 0 0] 28) = W at *
 refine (source_any w.heap.size a cap zs W hb0.size hl hu hby).mono ?_
 rintro e x1 ⟨rfl, hS, hb1⟩
 replace R0 := R0.below hb1
 replace hb0 := hb0.trans (hb1.mono hb0.size)
 generalize hbb : W.heap.size = b at *
 clear hb1 hby
 obtain ⟨B, HB⟩ : ∃ B, Hid (w.heap.size = B) := ⟨_, rfl⟩
 rw [HB.out] at hS
 clear hbb
 go_wp2_with fail
 refine (l6Bent_any B b 0 x1 hS (by omega)).mono ?_
 rintro e x2 ⟨q, rfl, hn, oq, nq, gq, hSn, hgn⟩
 have hx1 := hS.lt
 have hU : Out [b] x1 x2 := Out.of_grown hgn
 replace R0 := R0.outs hU (fun hk => by simp only [List.mem_singleton] at hk; omega)
 replace hb0 := Out.keep hb0 hU hb0.size (fun k hk => by simp only [List.mem_singleton] at hk; omega)
 replace hS := hSn
 have hm := instK.own_lt oq
 clear hSn hgn hU
 obtain ⟨ch, cb, cbs, cr, crs, cd, cds⟩ := q
 obtain ⟨c1, c4, rfl⟩ : ∃ a c, cb = .slice a cbs.length c := oq.1.shape
 obtain ⟨c2, c5, rfl⟩ : ∃ a c, cr = .slice a crs.length c := oq.2.1.shape
 obtain ⟨c3, c6, rfl⟩ : ∃ a c, cd = .slice a cds.length c := oq.2.2.shape
 have hcr : crs.length ≤ 1000 := by
  have h9 := hn
  dsimp only [InstQ.n] at h9
  omega
 have hbA : Below x2.heap.size x2 (x2.alloc (.cells #[.bool ch, .slice c1 cbs.length c4, .slice c2 crs.length c5, .slice c3 cds.length c6] 28)) := by go_grown
 have Bx := Blk.new x2 28 #[.bool ch, .slice c1 cbs.length c4, .slice c2 crs.length c5, .slice c3 cds.length c6]
 have hgw : w.heap.size < x2.heap.size := R0.lt
 have hgb : b < x2.heap.size := hS.lt.2
 replace R0 := R0.below hbA
 replace hS := hS.below hbA
 replace hb0 := hb0.trans (hbA.mono hb0.size)
 replace oq := instK.own_out (F := []) oq (Out.of_below hbA) (fun _ _ => by simp)
 have low : ∀ k ∈ instK.foot (⟨ch, .slice c1 cbs.length c4, cbs, .slice c2 crs.length c5, crs, .slice c3 cds.length c6, cds⟩ : InstQ), b < k ∧ k ≠ x2.heap.size := fun k hk => ⟨by have := gq k hk; omega, by have := hm k hk; omega⟩
 clear hbA gq hm
 go_wp2_with fail
 generalize hgx : x2.heap.size = g at *
 generalize x2.alloc (.cells #[.bool ch, .slice c1 cbs.length c4, .slice c2 crs.length c5, .slice c3 cds.length c6] 28) = X at *
 clear hgx
 have hsub : ∀ k ∈ [b], k ∈ [b, w.heap.size] := fun k hk => by simp only [List.mem_singleton] at hk; simp [hk]
 have hs1 : ∀ k ∈ [b], k ∈ [b] := fun k hk => hk
 have k0 := lato_cell (F := [b, w.heap.size]) (Bx.cell 0 _ rfl) (by simp only [List.mem_cons, List.not_mem_nil, or_false]; omega)
 have k1 := lato_cell (F := [b, w.heap.size]) (Bx.cell 1 _ rfl) (by simp only [List.mem_cons, List.not_mem_nil, or_false]; omega)
 have k2 := lato_cell (F := [b, w.heap.size]) (Bx.cell 2 _ rfl) (by simp only [List.mem_cons, List.not_mem_nil, or_false]; omega)
 have k3 := lato_cell (F := [b, w.heap.size]) (Bx.cell 3 _ rfl) (by simp only [List.mem_cons, List.not_mem_nil, or_false]; omega)
 refine region_vals [some 12, some 13, some 14, some 15, some 16, some 17, some 18, some 19, some 20, some 21, some 22, some 23, some 24, some 3, some 4, some 5] (fun vs w' => (∃ (n1 r1 m1 : Int) (ga gb : Nat), vs = [.agg #[.bool ch, .slice c1 cbs.length c4, .slice c2 crs.length c5, .slice c3 cds.length c6], .pointer (some ⟨b, 0, none⟩), .slice (some ⟨ga, 0, none⟩) 4 4, .int .i64 n1, .pointer (some ⟨b, 0, none⟩), .pointer (some ⟨g, 2, none⟩), .slice c2 crs.length c5, .int .i64 (crs.length : Int), .int .i64 ((crs.length : Int) + 1), .int .i64 r1, .pointer (some ⟨b, 0, none⟩), .slice (some ⟨gb, 0, none⟩) 5 5, .int .i64 m1, .int .i64 n1, .int .i64 r1, .int .i64 m1]) ∧ instK.own w' (⟨ch, .slice c1 cbs.length c4, cbs, .slice c2 crs.length c5, crs, .slice c3 cds.length c6, cds⟩ : InstQ) ∧ Blk w' w.heap.size 28 #[.bool ch, .slice c1 cbs.length c4, .slice c2 crs.length c5, .slice c3 cds.length c6] ∧ Out [b, w.heap.size] X w') ?_ ?_
 ·have sx : Src B X.drew b (0 + 2600) := hS.below ((Below.refl _ _).drew)
  have ux : Out [b] X X.drew := Out.of_below ((Below.refl _ _).drew)
  have hnn : Nonempty (LatO [b, w.heap.size] X) := ⟨⟨X, Out.refl _ _⟩⟩
  refine text_begin (S := fun w' => ∃ u : LatO [b, w.heap.size] X, w' = u.val) (by kernel_rfl) ?_
  refine seg_range [(0, 2), (4, 3)] 12 (by kernel_rfl) (by kernel_rfl) (by kernel_rfl) (by kernel_rfl) (by kernel_rfl) ⟨⟨_, ux.mono hsub⟩, rfl⟩ ?_
  simp only [pickR, List.toList_toArray, List.flatMap_cons, List.flatMap_nil, List.drop_succ_cons, List.drop_zero, List.take_succ_cons, List.take_zero, List.cons_append, List.nil_append, List.append_nil]
  repeat go_big_quiet_step (fail)
  refine wpQuiet_nil ?_
  refine quiet_at 7 (some 19) (.int .i64 (crs.length : Int)) 11 (by kernel_rfl) (by kernel_rfl) (by kernel_rfl) (by kernel_rfl) (by kernel_rfl) (fun u _ => by kernel_rfl) ⟨⟨_, ux.mono hsub⟩, rfl⟩ ?_
  simp only [Act.put, List.getElem_toArray, List.getElem_cons_succ, List.getElem_cons_zero, List.setIfInBounds_toArray, List.set_cons_zero, List.set_cons_succ]
  refine seg_range [(8, 1), (10, 1)] 9 (by kernel_rfl) (by kernel_rfl) (by kernel_rfl) (by kernel_rfl) (by kernel_rfl) ⟨⟨_, ux.mono hsub⟩, rfl⟩ ?_
  simp only [pickR, List.toList_toArray, List.flatMap_cons, List.flatMap_nil, List.drop_succ_cons, List.drop_zero, List.take_succ_cons, List.take_zero, List.cons_append, List.nil_append, List.append_nil]
  repeat go_big_quiet_step (fail)
  refine wpQuiet_nil ?_
  clear k0 k1 k2 k3
  generalize X.drew = wd at sx ux ⊢
  refine two_at 2 11 8 (by kernel_rfl) (by kernel_rfl) ?_ ?_
  ·skip
   refine op_one 2 _ rfl ?_
   have hp1 := World.ownsRow_lit (e := 2) (size := 1) wd #[.int .i64 0, .int .i64 1, .int .i64 2, .int .i64 3] 4 (Nat.le_refl _) (by decide) rfl
   have hbg1 : b < wd.heap.size := sx.lt.2
   have hba : Below wd.heap.size wd (wd.alloc (.cells #[.int .i64 0, .int .i64 1, .int .i64 2, .int .i64 3] 2)) := by go_grown
   replace sx := sx.below hba
   replace ux := ux.trans (Out.of_below hba)
   clear hba
   go_wp2
   refine ThenGo.to ⟨⟨⟨_, ux.mono hsub⟩, rfl⟩, ?_⟩
   generalize hGy1 : wd.heap.size = g1 at *
   clear hGy1
   generalize wd.alloc (.cells #[.int .i64 0, .int .i64 1, .int .i64 2, .int .i64 3] 2) = y1 at *
   refine two_at 3 11 7 (by kernel_rfl) (by kernel_rfl) ?_ ?_
   ·skip
    refine op_call 3 (some 15) 65 #[.pointer (some ⟨b, 0, none⟩), .slice (some ⟨g1, 0, none⟩) 4 4] (by kernel_rfl) (by kernel_rfl) (by kernel_rfl) ?_
    refine (pick_any B b (2600) g1 _ [0, 1, 2, 3] _ sx (by omega) hp1 (by simp) (by simp) (by simp [Value.ownBlock]; omega)).mono ?_
    rintro e x2 ⟨nd, rfl, _, sn', gn⟩
    clear hp1
    replace sx := sn'
    have un : Out [b] _ _ := Out.of_grown gn
    replace ux := ux.trans un
    clear un gn sn'
    refine ⟨_, rfl, ⟨⟨_, ux.mono hsub⟩, rfl⟩, ?_⟩
    simp only [Act.put, List.getElem_toArray, List.getElem_cons_succ, List.getElem_cons_zero, List.setIfInBounds_toArray, List.set_cons_zero, List.set_cons_succ]
    refine two_at 9 11 6 (by kernel_rfl) (by kernel_rfl) ?_ ?_
    ·skip
     refine op_call 9 (some 21) 64 #[.pointer (some ⟨b, 0, none⟩), .int .i64 ((crs.length : Int) + 1)] (by kernel_rfl) (by kernel_rfl) (by kernel_rfl) ?_
     refine (next_any B b (2601) ((crs.length : Int) + 1) _ sx (by omega) (by omega)).mono ?_
     rintro e x3 ⟨rd, rfl, _, sn', gn⟩
     replace sx := sn'
     have un : Out [b] _ _ := Out.of_grown gn
     replace ux := ux.trans un
     clear un gn sn'
     refine ⟨_, rfl, ⟨⟨_, ux.mono hsub⟩, rfl⟩, ?_⟩
     simp only [Act.put, List.getElem_toArray, List.getElem_cons_succ, List.getElem_cons_zero, List.setIfInBounds_toArray, List.set_cons_zero, List.set_cons_succ]
     refine one_at 11 _ 5 (by kernel_rfl) rfl (by kernel_rfl) ?_
     have hp2 := World.ownsRow_lit (e := 2) (size := 1) x3 #[.int .i64 7, .int .i64 3, .int .i64 5, .int .i64 6, .int .i64 1] 5 (Nat.le_refl _) (by decide) rfl
     have hbg2 : b < x3.heap.size := sx.lt.2
     have hba : Below x3.heap.size x3 (x3.alloc (.cells #[.int .i64 7, .int .i64 3, .int .i64 5, .int .i64 6, .int .i64 1] 2)) := by go_grown
     replace sx := sx.below hba
     replace ux := ux.trans (Out.of_below hba)
     clear hba
     go_wp2
     refine ThenGo.to ⟨⟨⟨_, ux.mono hsub⟩, rfl⟩, ?_⟩
     generalize hGy4 : x3.heap.size = g2 at *
     clear hGy4
     generalize x3.alloc (.cells #[.int .i64 7, .int .i64 3, .int .i64 5, .int .i64 6, .int .i64 1] 2) = y4 at *
     refine call_at 12 (some 24) 65 #[.pointer (some ⟨b, 0, none⟩), .slice (some ⟨g2, 0, none⟩) 5 5] 4 (by kernel_rfl) (by kernel_rfl) (by kernel_rfl) (by kernel_rfl) (by kernel_rfl) ?_
     refine (pick_any B b (2602) g2 _ [7, 3, 5, 6, 1] _ sx (by omega) hp2 (by simp) (by simp) (by simp [Value.ownBlock]; omega)).mono ?_
     rintro e x5 ⟨md, rfl, _, sn', gn⟩
     clear hp2
     replace sx := sn'
     have un : Out [b] _ _ := Out.of_grown gn
     replace ux := ux.trans un
     clear un gn sn'
     refine ⟨_, rfl, ⟨⟨_, ux.mono hsub⟩, rfl⟩, ?_⟩
     simp only [Act.put, List.getElem_toArray, List.getElem_cons_succ, List.getElem_cons_zero, List.setIfInBounds_toArray, List.set_cons_zero, List.set_cons_succ]
     refine one_at 13 _ 3 (by kernel_rfl) rfl (by kernel_rfl) ?_
     have Rx := R0.outs (ux.mono hs1) (fun hk => by simp only [List.mem_singleton] at hk; omega)
     have Rr := Rx.row #[.bool ch, .slice c1 cbs.length c4, .slice c2 crs.length c5, .slice c3 cds.length c6]
     have hsr : (Tryz.prog.info? 28).map (·.size) = some (#[.bool ch, .slice c1 cbs.length c4, .slice c2 crs.length c5, .slice c3 cds.length c6] : Array Value).size := sz_inst
     have uz : Out [b, w.heap.size] X (x5.setRow w.heap.size #[.bool ch, .slice c1 cbs.length c4, .slice c2 crs.length c5, .slice c3 cds.length c6]) := (ux.mono hsub).trans ((out_row x5 w.heap.size #[.bool ch, .slice c1 cbs.length c4, .slice c2 crs.length c5, .slice c3 cds.length c6]).mono (fun k hk => by simp only [List.mem_singleton] at hk; simp [hk]))
     have oz := instK.own_out oq uz (fun k hk hk' => by simp only [List.mem_cons, List.not_mem_nil, or_false] at hk'; have := low k hk; omega)
     refine st_row (by kernel_rfl) 28 _ _ rfl _ #[.bool ch, .slice c1 cbs.length c4, .slice c2 crs.length c5, .slice c3 cds.length c6] rfl rfl 28 _ Rx hsr rfl (by simp [Value.oneCell']) ?_
     refine ThenGo.to ⟨⟨⟨_, uz⟩, rfl⟩, ?_⟩
     try simp only [Act.put, List.getElem_toArray, List.getElem_cons_succ, List.getElem_cons_zero, List.setIfInBounds_toArray, List.set_cons_zero, List.set_cons_succ]
     refine seg_range [(14, 3)] 0 (by kernel_rfl) (by kernel_rfl) (by kernel_rfl) (by kernel_rfl) (by kernel_rfl) ⟨⟨_, uz⟩, rfl⟩ ?_
     simp only [pickR, List.toList_toArray, List.flatMap_cons, List.flatMap_nil, List.drop_succ_cons, List.drop_zero, List.take_succ_cons, List.take_zero, List.cons_append, List.nil_append, List.append_nil]
     repeat go_big_quiet_step (fail)
     refine wpQuiet_nil ?_
     refine text_end (by kernel_rfl) ?_
     refine ⟨rfl, _, ⟨⟨nd, rd, md, g1, g2, rfl⟩, oz, Rr, uz⟩, ?_⟩
     simp only [putAll, Act.put, List.getElem_toArray, List.getElem_cons_succ, List.getElem_cons_zero, List.setIfInBounds_toArray, List.set_cons_zero, List.set_cons_succ]
     try rfl
    ·skip
     refine op_one 11 _ rfl ?_
     have hp2 := World.ownsRow_lit (e := 2) (size := 1) x2 #[.int .i64 7, .int .i64 3, .int .i64 5, .int .i64 6, .int .i64 1] 5 (Nat.le_refl _) (by decide) rfl
     have hbg2 : b < x2.heap.size := sx.lt.2
     have hba : Below x2.heap.size x2 (x2.alloc (.cells #[.int .i64 7, .int .i64 3, .int .i64 5, .int .i64 6, .int .i64 1] 2)) := by go_grown
     replace sx := sx.below hba
     replace ux := ux.trans (Out.of_below hba)
     clear hba
     go_wp2
     refine ThenGo.to ⟨⟨⟨_, ux.mono hsub⟩, rfl⟩, ?_⟩
     generalize hGy6 : x2.heap.size = g2 at *
     clear hGy6
     generalize x2.alloc (.cells #[.int .i64 7, .int .i64 3, .int .i64 5, .int .i64 6, .int .i64 1] 2) = y6 at *
     refine call_at 9 (some 21) 64 #[.pointer (some ⟨b, 0, none⟩), .int .i64 ((crs.length : Int) + 1)] 5 (by kernel_rfl) (by kernel_rfl) (by kernel_rfl) (by kernel_rfl) (by kernel_rfl) ?_
     refine (next_any B b (2601) ((crs.length : Int) + 1) _ sx (by omega) (by omega)).mono ?_
     rintro e x7 ⟨rd, rfl, _, sn', gn⟩
     replace hp2 := hp2.kept gn (Or.inr (by simp [Value.ownBlock]; omega))
     replace sx := sn'
     have un : Out [b] _ _ := Out.of_grown gn
     replace ux := ux.trans un
     clear un gn sn'
     refine ⟨_, rfl, ⟨⟨_, ux.mono hsub⟩, rfl⟩, ?_⟩
     simp only [Act.put, List.getElem_toArray, List.getElem_cons_succ, List.getElem_cons_zero, List.setIfInBounds_toArray, List.set_cons_zero, List.set_cons_succ]
     refine call_at 12 (some 24) 65 #[.pointer (some ⟨b, 0, none⟩), .slice (some ⟨g2, 0, none⟩) 5 5] 4 (by kernel_rfl) (by kernel_rfl) (by kernel_rfl) (by kernel_rfl) (by kernel_rfl) ?_
     refine (pick_any B b (2602) g2 _ [7, 3, 5, 6, 1] _ sx (by omega) hp2 (by simp) (by simp) (by simp [Value.ownBlock]; omega)).mono ?_
     rintro e x8 ⟨md, rfl, _, sn', gn⟩
     clear hp2
     replace sx := sn'
     have un : Out [b] _ _ := Out.of_grown gn
     replace ux := ux.trans un
     clear un gn sn'
     refine ⟨_, rfl, ⟨⟨_, ux.mono hsub⟩, rfl⟩, ?_⟩
     simp only [Act.put, List.getElem_toArray, List.getElem_cons_succ, List.getElem_cons_zero, List.setIfInBounds_toArray, List.set_cons_zero, List.set_cons_succ]
     refine one_at 13 _ 3 (by kernel_rfl) rfl (by kernel_rfl) ?_
     have Rx := R0.outs (ux.mono hs1) (fun hk => by simp only [List.mem_singleton] at hk; omega)
     have Rr := Rx.row #[.bool ch, .slice c1 cbs.length c4, .slice c2 crs.length c5, .slice c3 cds.length c6]
     have hsr : (Tryz.prog.info? 28).map (·.size) = some (#[.bool ch, .slice c1 cbs.length c4, .slice c2 crs.length c5, .slice c3 cds.length c6] : Array Value).size := sz_inst
     have uz : Out [b, w.heap.size] X (x8.setRow w.heap.size #[.bool ch, .slice c1 cbs.length c4, .slice c2 crs.length c5, .slice c3 cds.length c6]) := (ux.mono hsub).trans ((out_row x8 w.heap.size #[.bool ch, .slice c1 cbs.length c4, .slice c2 crs.length c5, .slice c3 cds.length c6]).mono (fun k hk => by simp only [List.mem_singleton] at hk; simp [hk]))
     have oz := instK.own_out oq uz (fun k hk hk' => by simp only [List.mem_cons, List.not_mem_nil, or_false] at hk'; have := low k hk; omega)
     refine st_row (by kernel_rfl) 28 _ _ rfl _ #[.bool ch, .slice c1 cbs.length c4, .slice c2 crs.length c5, .slice c3 cds.length c6] rfl rfl 28 _ Rx hsr rfl (by simp [Value.oneCell']) ?_
     refine ThenGo.to ⟨⟨⟨_, uz⟩, rfl⟩, ?_⟩
     try simp only [Act.put, List.getElem_toArray, List.getElem_cons_succ, List.getElem_cons_zero, List.setIfInBounds_toArray, List.set_cons_zero, List.set_cons_succ]
     refine seg_range [(14, 3)] 0 (by kernel_rfl) (by kernel_rfl) (by kernel_rfl) (by kernel_rfl) (by kernel_rfl) ⟨⟨_, uz⟩, rfl⟩ ?_
     simp only [pickR, List.toList_toArray, List.flatMap_cons, List.flatMap_nil, List.drop_succ_cons, List.drop_zero, List.take_succ_cons, List.take_zero, List.cons_append, List.nil_append, List.append_nil]
     repeat go_big_quiet_step (fail)
     refine wpQuiet_nil ?_
     refine text_end (by kernel_rfl) ?_
     refine ⟨rfl, _, ⟨⟨nd, rd, md, g1, g2, rfl⟩, oz, Rr, uz⟩, ?_⟩
     simp only [putAll, Act.put, List.getElem_toArray, List.getElem_cons_succ, List.getElem_cons_zero, List.setIfInBounds_toArray, List.set_cons_zero, List.set_cons_succ]
     try rfl
   ·skip
    refine op_one 11 _ rfl ?_
    have hp2 := World.ownsRow_lit (e := 2) (size := 1) y1 #[.int .i64 7, .int .i64 3, .int .i64 5, .int .i64 6, .int .i64 1] 5 (Nat.le_refl _) (by decide) rfl
    have hbg2 : b < y1.heap.size := sx.lt.2
    have hba : Below y1.heap.size y1 (y1.alloc (.cells #[.int .i64 7, .int .i64 3, .int .i64 5, .int .i64 6, .int .i64 1] 2)) := by go_grown
    replace sx := sx.below hba
    replace ux := ux.trans (Out.of_below hba)
    replace hp1 := own_below hp1 hba
    clear hba
    go_wp2
    refine ThenGo.to ⟨⟨⟨_, ux.mono hsub⟩, rfl⟩, ?_⟩
    generalize hGy9 : y1.heap.size = g2 at *
    clear hGy9
    generalize y1.alloc (.cells #[.int .i64 7, .int .i64 3, .int .i64 5, .int .i64 6, .int .i64 1] 2) = y9 at *
    refine call_at 3 (some 15) 65 #[.pointer (some ⟨b, 0, none⟩), .slice (some ⟨g1, 0, none⟩) 4 4] 6 (by kernel_rfl) (by kernel_rfl) (by kernel_rfl) (by kernel_rfl) (by kernel_rfl) ?_
    refine (pick_any B b (2600) g1 _ [0, 1, 2, 3] _ sx (by omega) hp1 (by simp) (by simp) (by simp [Value.ownBlock]; omega)).mono ?_
    rintro e x10 ⟨nd, rfl, _, sn', gn⟩
    clear hp1
    replace hp2 := hp2.kept gn (Or.inr (by simp [Value.ownBlock]; omega))
    replace sx := sn'
    have un : Out [b] _ _ := Out.of_grown gn
    replace ux := ux.trans un
    clear un gn sn'
    refine ⟨_, rfl, ⟨⟨_, ux.mono hsub⟩, rfl⟩, ?_⟩
    simp only [Act.put, List.getElem_toArray, List.getElem_cons_succ, List.getElem_cons_zero, List.setIfInBounds_toArray, List.set_cons_zero, List.set_cons_succ]
    refine call_at 9 (some 21) 64 #[.pointer (some ⟨b, 0, none⟩), .int .i64 ((crs.length : Int) + 1)] 5 (by kernel_rfl) (by kernel_rfl) (by kernel_rfl) (by kernel_rfl) (by kernel_rfl) ?_
    refine (next_any B b (2601) ((crs.length : Int) + 1) _ sx (by omega) (by omega)).mono ?_
    rintro e x11 ⟨rd, rfl, _, sn', gn⟩
    replace hp2 := hp2.kept gn (Or.inr (by simp [Value.ownBlock]; omega))
    replace sx := sn'
    have un : Out [b] _ _ := Out.of_grown gn
    replace ux := ux.trans un
    clear un gn sn'
    refine ⟨_, rfl, ⟨⟨_, ux.mono hsub⟩, rfl⟩, ?_⟩
    simp only [Act.put, List.getElem_toArray, List.getElem_cons_succ, List.getElem_cons_zero, List.setIfInBounds_toArray, List.set_cons_zero, List.set_cons_succ]
    refine call_at 12 (some 24) 65 #[.pointer (some ⟨b, 0, none⟩), .slice (some ⟨g2, 0, none⟩) 5 5] 4 (by kernel_rfl) (by kernel_rfl) (by kernel_rfl) (by kernel_rfl) (by kernel_rfl) ?_
    refine (pick_any B b (2602) g2 _ [7, 3, 5, 6, 1] _ sx (by omega) hp2 (by simp) (by simp) (by simp [Value.ownBlock]; omega)).mono ?_
    rintro e x12 ⟨md, rfl, _, sn', gn⟩
    clear hp2
    replace sx := sn'
    have un : Out [b] _ _ := Out.of_grown gn
    replace ux := ux.trans un
    clear un gn sn'
    refine ⟨_, rfl, ⟨⟨_, ux.mono hsub⟩, rfl⟩, ?_⟩
    simp only [Act.put, List.getElem_toArray, List.getElem_cons_succ, List.getElem_cons_zero, List.setIfInBounds_toArray, List.set_cons_zero, List.set_cons_succ]
    refine one_at 13 _ 3 (by kernel_rfl) rfl (by kernel_rfl) ?_
    have Rx := R0.outs (ux.mono hs1) (fun hk => by simp only [List.mem_singleton] at hk; omega)
    have Rr := Rx.row #[.bool ch, .slice c1 cbs.length c4, .slice c2 crs.length c5, .slice c3 cds.length c6]
    have hsr : (Tryz.prog.info? 28).map (·.size) = some (#[.bool ch, .slice c1 cbs.length c4, .slice c2 crs.length c5, .slice c3 cds.length c6] : Array Value).size := sz_inst
    have uz : Out [b, w.heap.size] X (x12.setRow w.heap.size #[.bool ch, .slice c1 cbs.length c4, .slice c2 crs.length c5, .slice c3 cds.length c6]) := (ux.mono hsub).trans ((out_row x12 w.heap.size #[.bool ch, .slice c1 cbs.length c4, .slice c2 crs.length c5, .slice c3 cds.length c6]).mono (fun k hk => by simp only [List.mem_singleton] at hk; simp [hk]))
    have oz := instK.own_out oq uz (fun k hk hk' => by simp only [List.mem_cons, List.not_mem_nil, or_false] at hk'; have := low k hk; omega)
    refine st_row (by kernel_rfl) 28 _ _ rfl _ #[.bool ch, .slice c1 cbs.length c4, .slice c2 crs.length c5, .slice c3 cds.length c6] rfl rfl 28 _ Rx hsr rfl (by simp [Value.oneCell']) ?_
    refine ThenGo.to ⟨⟨⟨_, uz⟩, rfl⟩, ?_⟩
    try simp only [Act.put, List.getElem_toArray, List.getElem_cons_succ, List.getElem_cons_zero, List.setIfInBounds_toArray, List.set_cons_zero, List.set_cons_succ]
    refine seg_range [(14, 3)] 0 (by kernel_rfl) (by kernel_rfl) (by kernel_rfl) (by kernel_rfl) (by kernel_rfl) ⟨⟨_, uz⟩, rfl⟩ ?_
    simp only [pickR, List.toList_toArray, List.flatMap_cons, List.flatMap_nil, List.drop_succ_cons, List.drop_zero, List.take_succ_cons, List.take_zero, List.cons_append, List.nil_append, List.append_nil]
    repeat go_big_quiet_step (fail)
    refine wpQuiet_nil ?_
    refine text_end (by kernel_rfl) ?_
    refine ⟨rfl, _, ⟨⟨nd, rd, md, g1, g2, rfl⟩, oz, Rr, uz⟩, ?_⟩
    simp only [putAll, Act.put, List.getElem_toArray, List.getElem_cons_succ, List.getElem_cons_zero, List.setIfInBounds_toArray, List.set_cons_zero, List.set_cons_succ]
    try rfl
  ·skip
   refine op_one 11 _ rfl ?_
   have hp2 := World.ownsRow_lit (e := 2) (size := 1) wd #[.int .i64 7, .int .i64 3, .int .i64 5, .int .i64 6, .int .i64 1] 5 (Nat.le_refl _) (by decide) rfl
   have hbg2 : b < wd.heap.size := sx.lt.2
   have hba : Below wd.heap.size wd (wd.alloc (.cells #[.int .i64 7, .int .i64 3, .int .i64 5, .int .i64 6, .int .i64 1] 2)) := by go_grown
   replace sx := sx.below hba
   replace ux := ux.trans (Out.of_below hba)
   clear hba
   go_wp2
   refine ThenGo.to ⟨⟨⟨_, ux.mono hsub⟩, rfl⟩, ?_⟩
   generalize hGy13 : wd.heap.size = g2 at *
   clear hGy13
   generalize wd.alloc (.cells #[.int .i64 7, .int .i64 3, .int .i64 5, .int .i64 6, .int .i64 1] 2) = y13 at *
   refine one_at 2 _ 7 (by kernel_rfl) rfl (by kernel_rfl) ?_
   have hp1 := World.ownsRow_lit (e := 2) (size := 1) y13 #[.int .i64 0, .int .i64 1, .int .i64 2, .int .i64 3] 4 (Nat.le_refl _) (by decide) rfl
   have hbg1 : b < y13.heap.size := sx.lt.2
   have hba : Below y13.heap.size y13 (y13.alloc (.cells #[.int .i64 0, .int .i64 1, .int .i64 2, .int .i64 3] 2)) := by go_grown
   replace sx := sx.below hba
   replace ux := ux.trans (Out.of_below hba)
   replace hp2 := own_below hp2 hba
   clear hba
   go_wp2
   refine ThenGo.to ⟨⟨⟨_, ux.mono hsub⟩, rfl⟩, ?_⟩
   generalize hGy14 : y13.heap.size = g1 at *
   clear hGy14
   generalize y13.alloc (.cells #[.int .i64 0, .int .i64 1, .int .i64 2, .int .i64 3] 2) = y14 at *
   refine call_at 3 (some 15) 65 #[.pointer (some ⟨b, 0, none⟩), .slice (some ⟨g1, 0, none⟩) 4 4] 6 (by kernel_rfl) (by kernel_rfl) (by kernel_rfl) (by kernel_rfl) (by kernel_rfl) ?_
   refine (pick_any B b (2600) g1 _ [0, 1, 2, 3] _ sx (by omega) hp1 (by simp) (by simp) (by simp [Value.ownBlock]; omega)).mono ?_
   rintro e x15 ⟨nd, rfl, _, sn', gn⟩
   clear hp1
   replace hp2 := hp2.kept gn (Or.inr (by simp [Value.ownBlock]; omega))
   replace sx := sn'
   have un : Out [b] _ _ := Out.of_grown gn
   replace ux := ux.trans un
   clear un gn sn'
   refine ⟨_, rfl, ⟨⟨_, ux.mono hsub⟩, rfl⟩, ?_⟩
   simp only [Act.put, List.getElem_toArray, List.getElem_cons_succ, List.getElem_cons_zero, List.setIfInBounds_toArray, List.set_cons_zero, List.set_cons_succ]
   refine call_at 9 (some 21) 64 #[.pointer (some ⟨b, 0, none⟩), .int .i64 ((crs.length : Int) + 1)] 5 (by kernel_rfl) (by kernel_rfl) (by kernel_rfl) (by kernel_rfl) (by kernel_rfl) ?_
   refine (next_any B b (2601) ((crs.length : Int) + 1) _ sx (by omega) (by omega)).mono ?_
   rintro e x16 ⟨rd, rfl, _, sn', gn⟩
   replace hp2 := hp2.kept gn (Or.inr (by simp [Value.ownBlock]; omega))
   replace sx := sn'
   have un : Out [b] _ _ := Out.of_grown gn
   replace ux := ux.trans un
   clear un gn sn'
   refine ⟨_, rfl, ⟨⟨_, ux.mono hsub⟩, rfl⟩, ?_⟩
   simp only [Act.put, List.getElem_toArray, List.getElem_cons_succ, List.getElem_cons_zero, List.setIfInBounds_toArray, List.set_cons_zero, List.set_cons_succ]
   refine call_at 12 (some 24) 65 #[.pointer (some ⟨b, 0, none⟩), .slice (some ⟨g2, 0, none⟩) 5 5] 4 (by kernel_rfl) (by kernel_rfl) (by kernel_rfl) (by kernel_rfl) (by kernel_rfl) ?_
   refine (pick_any B b (2602) g2 _ [7, 3, 5, 6, 1] _ sx (by omega) hp2 (by simp) (by simp) (by simp [Value.ownBlock]; omega)).mono ?_
   rintro e x17 ⟨md, rfl, _, sn', gn⟩
   clear hp2
   replace sx := sn'
   have un : Out [b] _ _ := Out.of_grown gn
   replace ux := ux.trans un
   clear un gn sn'
   refine ⟨_, rfl, ⟨⟨_, ux.mono hsub⟩, rfl⟩, ?_⟩
   simp only [Act.put, List.getElem_toArray, List.getElem_cons_succ, List.getElem_cons_zero, List.setIfInBounds_toArray, List.set_cons_zero, List.set_cons_succ]
   refine one_at 13 _ 3 (by kernel_rfl) rfl (by kernel_rfl) ?_
   have Rx := R0.outs (ux.mono hs1) (fun hk => by simp only [List.mem_singleton] at hk; omega)
   have Rr := Rx.row #[.bool ch, .slice c1 cbs.length c4, .slice c2 crs.length c5, .slice c3 cds.length c6]
   have hsr : (Tryz.prog.info? 28).map (·.size) = some (#[.bool ch, .slice c1 cbs.length c4, .slice c2 crs.length c5, .slice c3 cds.length c6] : Array Value).size := sz_inst
   have uz : Out [b, w.heap.size] X (x17.setRow w.heap.size #[.bool ch, .slice c1 cbs.length c4, .slice c2 crs.length c5, .slice c3 cds.length c6]) := (ux.mono hsub).trans ((out_row x17 w.heap.size #[.bool ch, .slice c1 cbs.length c4, .slice c2 crs.length c5, .slice c3 cds.length c6]).mono (fun k hk => by simp only [List.mem_singleton] at hk; simp [hk]))
   have oz := instK.own_out oq uz (fun k hk hk' => by simp only [List.mem_cons, List.not_mem_nil, or_false] at hk'; have := low k hk; omega)
   refine st_row (by kernel_rfl) 28 _ _ rfl _ #[.bool ch, .slice c1 cbs.length c4, .slice c2 crs.length c5, .slice c3 cds.length c6] rfl rfl 28 _ Rx hsr rfl (by simp [Value.oneCell']) ?_
   refine ThenGo.to ⟨⟨⟨_, uz⟩, rfl⟩, ?_⟩
   try simp only [Act.put, List.getElem_toArray, List.getElem_cons_succ, List.getElem_cons_zero, List.setIfInBounds_toArray, List.set_cons_zero, List.set_cons_succ]
   refine seg_range [(14, 3)] 0 (by kernel_rfl) (by kernel_rfl) (by kernel_rfl) (by kernel_rfl) (by kernel_rfl) ⟨⟨_, uz⟩, rfl⟩ ?_
   simp only [pickR, List.toList_toArray, List.flatMap_cons, List.flatMap_nil, List.drop_succ_cons, List.drop_zero, List.take_succ_cons, List.take_zero, List.cons_append, List.nil_append, List.append_nil]
   repeat go_big_quiet_step (fail)
   refine wpQuiet_nil ?_
   refine text_end (by kernel_rfl) ?_
   refine ⟨rfl, _, ⟨⟨nd, rd, md, g1, g2, rfl⟩, oz, Rr, uz⟩, ?_⟩
   simp only [putAll, Act.put, List.getElem_toArray, List.getElem_cons_succ, List.getElem_cons_zero, List.setIfInBounds_toArray, List.set_cons_zero, List.set_cons_succ]
   try rfl
 rintro vs X6 ⟨⟨n1, r1, m1, ga, gb, rfl⟩, ow, Rr, uX⟩
 simp only [putAll, Act.put, List.setIfInBounds_toArray, List.set_cons_zero, List.set_cons_succ]
 have hBz : Below w.heap.size w X6 := Out.keep hb0 uX hb0.size (fun k hk => by simp only [List.mem_cons, List.not_mem_nil, or_false] at hk; omega)
 have HQ : Hid (InstQ.n (⟨ch, .slice c1 cbs.length c4, cbs, .slice c2 crs.length c5, crs, .slice c3 cds.length c6, cds⟩ : InstQ) ≤ 1000 ∧ instK.own X6 (⟨ch, .slice c1 cbs.length c4, cbs, .slice c2 crs.length c5, crs, .slice c3 cds.length c6, cds⟩ : InstQ) ∧ (instK.foot (⟨ch, .slice c1 cbs.length c4, cbs, .slice c2 crs.length c5, crs, .slice c3 cds.length c6, cds⟩ : InstQ)).Nodup ∧ ∀ k ∈ instK.foot (⟨ch, .slice c1 cbs.length c4, cbs, .slice c2 crs.length c5, crs, .slice c3 cds.length c6, cds⟩ : InstQ), w.heap.size ≤ k) := ⟨hn, ow, nq, fun k hk => by have := low k hk; omega⟩
 have q0 := Rr.cell 0 _ rfl
 have q1 := Rr.cell 1 _ rfl
 have q2 := Rr.cell 2 _ rfl
 have q3 := Rr.cell 3 _ rfl
 clear ow uX k0 k1 k2 k3 Bx R0 hS oq nq low hn
 go_wp2
 exact bodyPost_ret (v := .tuple #[.agg #[.bool ch, .slice c1 cbs.length c4, .slice c2 crs.length c5, .slice c3 cds.length c6], .int .i64 n1, .int .i64 r1, .int .i64 m1]) (by simp [results, Tryz.results15, go_sem, q0, q1, q2, q3]) rfl ⟨(⟨ch, .slice c1 cbs.length c4, cbs, .slice c2 crs.length c5, crs, .slice c3 cds.length c6, cds⟩ : InstQ), n1, r1, m1, rfl, HQ.out.1, HQ.out.2.1, HQ.out.2.2.1, HQ.out.2.2.2, hBz⟩

end Go.Proofs.YtmgkjcobdmdjmaaGreatDoor
namespace Go.Proofs.YtmgkjcobdmdjmaaGreatDoor
open Go.RowKit
open Go.BigFrame
set_option linter.unusedVariables false
set_option maxRecDepth 100000
set_option linter.unusedSimpArgs false
set_option maxHeartbeats 1000000 in
theorem later_any (B : Nat) (a : Option Addr) (cap : Nat) (zs : List Int) (w : World) (hB : B ≤ w.heap.size) (hl : zs.length ≤ 1048576) (hu : ∀ i, 0 ≤ zs.getD i 0 ∧ zs.getD i 0 ≤ 255)
  (h : ∀ i, i < zs.length → ∃ b' off, a = some ⟨b', off, none⟩ ∧ b' < B ∧ w.cell? ⟨b', off + i, none⟩ = some (.int .u8 (zs.getD i 0))) :
  Calls Tryz.prog 73 #[.slice a zs.length cap, .int .i64 5] w fun e w' => e = .returned (.pointer (some ⟨w.heap.size, 0, none⟩)) ∧ Src B w' w.heap.size 40 ∧ Below w.heap.size w w' := by
 go_enter Tryz.func73, Tryz.ntmps73
 go_wp2
 go_ret
 refine ⟨rfl, ⟨a, zs, cap, 40, hB, by simp, by simp, by simp, by simp, Nat.le_refl _, hl, hu, ?_⟩, by go_grown⟩
 intro i hi
 obtain ⟨b', off, e1, e2, e3⟩ := h i hi
 refine ⟨b', off, e1, e2, ?_⟩
 rw [World.cell?_of_block (w := w) (a := ⟨b', off + i, none⟩) (Below.heap_alloc w _ b' (by omega))]
 exact e3

set_option maxRecDepth 100000 in
set_option maxHeartbeats 8000000 in
theorem drawGoOn_any (a : Option Addr) (cap : Nat) (zs : List Int) (w : World) (h : Row .u8 w a zs) (hu : ∀ i, 0 ≤ zs.getD i 0 ∧ zs.getD i 0 ≤ 255) (hl : zs.length ≤ 1048576) :
  Calls Tryz.prog 17 #[.slice a zs.length cap] w fun e w' => ∃ (q : InstQ) (n1 r1 m1 cn : Int), e = .returned (.tuple #[.agg #[.bool q.has, q.vb, q.vr, q.vd], .int .i64 n1, .int .i64 r1, .int .i64 m1, .int .i64 cn]) ∧ q.n ≤ 1000 ∧ instK.own w' q ∧ (∀ k ∈ instK.foot q, w.heap.size ≤ k) ∧ Below w.heap.size w w' := by
 have hb0 : Below w.heap.size w (w.alloc (.cells #[.bool false, .slice none 0 0, .slice none 0 0, .slice none 0 0] 28)) := by go_grown
 have R0 := Blk.new w 28 #[.bool false, .slice none 0 0, .slice none 0 0, .slice none 0 0]
 have hW1 : w.heap.size < (w.alloc (.cells #[.bool false, .slice none 0 0, .slice none 0 0, .slice none 0 0] 28)).heap.size := by simp
 have hdp := fun (W : World) (hb : Below w.heap.size w W) => drawPropose_any a cap zs W (h.below hb) hu hl
 go_enter Tryz.func17, Tryz.ntmps17
 go_wp2_with fail
 generalize w.alloc (.cells #[.bool false, .slice none 0 0, .slice none 0 0, .slice none 0 0] 28) = W at *
 refine (hdp W hb0).mono ?_
 rintro e x1 ⟨q, n1, r1, m1, rfl, hn, oq, nq, gq, hb1⟩
 have hm := instK.own_lt oq
 have hx1 := hb1.size
 replace R0 := R0.below hb1
 replace hb0 := hb0.trans (hb1.mono hb0.size)
 clear hb1 hdp nq
 obtain ⟨ch, cb, cbs, cr, crs, cd, cds⟩ := q
 obtain ⟨c1, c4, rfl⟩ : ∃ a c, cb = .slice a cbs.length c := oq.1.shape
 obtain ⟨c2, c5, rfl⟩ : ∃ a c, cr = .slice a crs.length c := oq.2.1.shape
 obtain ⟨c3, c6, rfl⟩ : ∃ a c, cd = .slice a cds.length c := oq.2.2.shape
 have hbA : Below x1.heap.size x1 (x1.alloc (.cells #[.bool ch, .slice c1 cbs.length c4, .slice c2 crs.length c5, .slice c3 cds.length c6] 28)) := by go_grown
 have Bx := Blk.new x1 28 #[.bool ch, .slice c1 cbs.length c4, .slice c2 crs.length c5, .slice c3 cds.length c6]
 replace R0 := R0.below hbA
 replace hb0 := hb0.trans (hbA.mono hb0.size)
 replace oq := instK.own_out (F := []) oq (Out.of_below hbA) (fun _ _ => by simp)
 have low : ∀ k ∈ instK.foot (⟨ch, .slice c1 cbs.length c4, cbs, .slice c2 crs.length c5, crs, .slice c3 cds.length c6, cds⟩ : InstQ), w.heap.size < k := fun k hk => by have := gq k hk; omega
 clear hbA gq hm
 go_wp2_with fail
 generalize hgx : x1.heap.size = g at *
 have hgw : w.heap.size < g := by omega
 generalize x1.alloc (.cells #[.bool ch, .slice c1 cbs.length c4, .slice c2 crs.length c5, .slice c3 cds.length c6] 28) = X at *
 clear hgx
 have hX0 := hb0.size
 have k0 := lato_cell (F := [w.heap.size]) (Bx.cell 0 _ rfl) (by simp only [List.mem_singleton]; omega)
 have k1 := lato_cell (F := [w.heap.size]) (Bx.cell 1 _ rfl) (by simp only [List.mem_singleton]; omega)
 have k2 := lato_cell (F := [w.heap.size]) (Bx.cell 2 _ rfl) (by simp only [List.mem_singleton]; omega)
 have k3 := lato_cell (F := [w.heap.size]) (Bx.cell 3 _ rfl) (by simp only [List.mem_singleton]; omega)
 refine region_vals [some 18, some 19, some 20, some 21, some 22, some 23, some 24, some 25, some 3, some 4, some 5, some 6] (fun vs w' => (∃ (ba gp : Nat) (cn : Int), vs = [.agg #[.bool ch, .slice c1 cbs.length c4, .slice c2 crs.length c5, .slice c3 cds.length c6], .int .i64 n1, .int .i64 r1, .int .i64 m1, .slice a zs.length cap, .pointer (some ⟨ba, 0, none⟩), .slice (some ⟨gp, 0, none⟩) 3 3, .int .i64 cn, .int .i64 n1, .int .i64 r1, .int .i64 m1, .int .i64 cn]) ∧ instK.own w' (⟨ch, .slice c1 cbs.length c4, cbs, .slice c2 crs.length c5, crs, .slice c3 cds.length c6, cds⟩ : InstQ) ∧ Blk w' w.heap.size 28 #[.bool ch, .slice c1 cbs.length c4, .slice c2 crs.length c5, .slice c3 cds.length c6] ∧ Out [w.heap.size] X w') ?_ ?_
 ·have hW : Below X.heap.size X X.drew := (Below.refl _ _).drew
  have hnn : Nonempty (LatO [w.heap.size] X) := ⟨⟨X, Out.refl _ _⟩⟩
  have hnw : ∀ w', Below X.heap.size X w' → ∃ u : LatO [w.heap.size] X, w' = u.val := fun w' hw' => ⟨⟨w', Out.of_below hw'⟩, rfl⟩
  refine text_begin (S := fun w' => ∃ u : LatO [w.heap.size] X, w' = u.val) (by kernel_rfl) ?_
  refine seg_range [(0, 5)] 8 (by kernel_rfl) (by kernel_rfl) (by kernel_rfl) (by kernel_rfl) (by kernel_rfl) (hnw _ hW) ?_
  simp only [pickR, List.toList_toArray, List.flatMap_cons, List.flatMap_nil, List.drop_succ_cons, List.drop_zero, List.take_succ_cons, List.take_zero, List.cons_append, List.nil_append, List.append_nil]
  repeat go_big_quiet_step (fail)
  refine wpQuiet_nil ?_
  clear k0 k1 k2 k3
  generalize X.drew = wd at hW ⊢
  refine two_at 5 6 7 (by kernel_rfl) (by kernel_rfl) ?_ ?_
  ·skip
   refine op_call 5 (some 23) 73 #[.slice a zs.length cap, .int .i64 5] (by kernel_rfl) (by kernel_rfl) (by kernel_rfl) ?_
   refine (later_any w.heap.size a cap zs wd (by have := hW.size; omega) hl hu (fun i hi => by
    obtain ⟨b', off, e1, e2, e3⟩ := h i hi
    exact ⟨b', off, e1, e2, cellB e3 (hb0.trans (hW.mono hb0.size))⟩)).mono ?_
   rintro e x7 ⟨rfl, sx, hbl⟩
   have hb2 : X.heap.size ≤ wd.heap.size := hW.size
   generalize hGb : wd.heap.size = b2 at *
   replace hW := hW.trans (hbl.mono (by omega))
   clear hbl hGb
   refine ⟨_, rfl, hnw _ hW, ?_⟩
   simp only [Act.put, List.getElem_toArray, List.getElem_cons_succ, List.getElem_cons_zero, List.setIfInBounds_toArray, List.set_cons_zero, List.set_cons_succ]
   refine one_at 6 _ 6 (by kernel_rfl) rfl (by kernel_rfl) ?_
   have hpk := World.ownsRow_lit (e := 2) (size := 1) x7 #[.int .i64 0, .int .i64 1, .int .i64 2] 3 (Nat.le_refl _) (by decide) rfl
   have hba : Below x7.heap.size x7 (x7.alloc (.cells #[.int .i64 0, .int .i64 1, .int .i64 2] 2)) := by go_grown
   have hg7 : b2 < x7.heap.size := sx.lt.2
   replace sx := sx.below hba
   replace hW := hW.trans (hba.mono hW.size)
   clear hba
   go_wp2
   refine ThenGo.to ⟨hnw _ hW, ?_⟩
   generalize hGp : x7.heap.size = gp at *
   generalize x7.alloc (.cells #[.int .i64 0, .int .i64 1, .int .i64 2] 2) = Y at *
   clear hGp
   refine call_at 7 (some 25) 65 #[.pointer (some ⟨b2, 0, none⟩), .slice (some ⟨gp, 0, none⟩) 3 3] 5 (by kernel_rfl) (by kernel_rfl) (by kernel_rfl) (by kernel_rfl) (by kernel_rfl) ?_
   refine (pick_any w.heap.size b2 40 gp _ [0, 1, 2] _ sx (by omega) hpk (by simp) (by simp) (by simp [Value.ownBlock]; omega)).mono ?_
   rintro e x9 ⟨cn, rfl, _, _, gn⟩
   have un : Out [b2] _ _ := Out.of_grown gn
   replace hW := Out.keep hW un hW.size (fun k hk => by simp only [List.mem_singleton] at hk; omega)
   clear un gn hpk sx
   refine ⟨_, rfl, hnw _ hW, ?_⟩
   simp only [Act.put, List.getElem_toArray, List.getElem_cons_succ, List.getElem_cons_zero, List.setIfInBounds_toArray, List.set_cons_zero, List.set_cons_succ]
   refine one_at 8 _ 4 (by kernel_rfl) rfl (by kernel_rfl) ?_
   have Rx := R0.below hW
   have Rr := Rx.row #[.bool ch, .slice c1 cbs.length c4, .slice c2 crs.length c5, .slice c3 cds.length c6]
   have hsr : (Tryz.prog.info? 28).map (·.size) = some (#[.bool ch, .slice c1 cbs.length c4, .slice c2 crs.length c5, .slice c3 cds.length c6] : Array Value).size := sz_inst
   have uz : Out [w.heap.size] X (x9.setRow w.heap.size #[.bool ch, .slice c1 cbs.length c4, .slice c2 crs.length c5, .slice c3 cds.length c6]) := (Out.of_below hW).trans (out_row x9 w.heap.size #[.bool ch, .slice c1 cbs.length c4, .slice c2 crs.length c5, .slice c3 cds.length c6])
   have oz := instK.own_out oq uz (fun k hk hk' => by simp only [List.mem_singleton] at hk'; have := low k hk; omega)
   refine st_row (by kernel_rfl) 28 _ _ rfl _ #[.bool ch, .slice c1 cbs.length c4, .slice c2 crs.length c5, .slice c3 cds.length c6] rfl rfl 28 _ Rx hsr rfl (by simp [Value.oneCell']) ?_
   refine ThenGo.to ⟨⟨⟨_, uz⟩, rfl⟩, ?_⟩
   try simp only [Act.put, List.getElem_toArray, List.getElem_cons_succ, List.getElem_cons_zero, List.setIfInBounds_toArray, List.set_cons_zero, List.set_cons_succ]
   refine seg_range [(9, 4)] 0 (by kernel_rfl) (by kernel_rfl) (by kernel_rfl) (by kernel_rfl) (by kernel_rfl) ⟨⟨_, uz⟩, rfl⟩ ?_
   simp only [pickR, List.toList_toArray, List.flatMap_cons, List.flatMap_nil, List.drop_succ_cons, List.drop_zero, List.take_succ_cons, List.take_zero, List.cons_append, List.nil_append, List.append_nil]
   repeat go_big_quiet_step (fail)
   refine wpQuiet_nil ?_
   refine text_end (by kernel_rfl) ?_
   refine ⟨rfl, _, ⟨⟨b2, gp, cn, rfl⟩, oz, Rr, uz⟩, ?_⟩
   simp only [putAll, Act.put, List.getElem_toArray, List.getElem_cons_succ, List.getElem_cons_zero, List.setIfInBounds_toArray, List.set_cons_zero, List.set_cons_succ]
   try rfl
  ·skip
   refine op_one 6 _ rfl ?_
   have hpk := World.ownsRow_lit (e := 2) (size := 1) wd #[.int .i64 0, .int .i64 1, .int .i64 2] 3 (Nat.le_refl _) (by decide) rfl
   have hba : Below wd.heap.size wd (wd.alloc (.cells #[.int .i64 0, .int .i64 1, .int .i64 2] 2)) := by go_grown
   have hgp0 : X.heap.size ≤ wd.heap.size := hW.size
   replace hW := hW.trans (hba.mono hW.size)
   have hgp1 : wd.heap.size < (wd.alloc (.cells #[.int .i64 0, .int .i64 1, .int .i64 2] 2)).heap.size := by simp
   clear hba
   go_wp2
   refine ThenGo.to ⟨hnw _ hW, ?_⟩
   generalize hGp : wd.heap.size = gp at *
   generalize wd.alloc (.cells #[.int .i64 0, .int .i64 1, .int .i64 2] 2) = Y at *
   clear hGp
   refine call_at 5 (some 23) 73 #[.slice a zs.length cap, .int .i64 5] 6 (by kernel_rfl) (by kernel_rfl) (by kernel_rfl) (by kernel_rfl) (by kernel_rfl) ?_
   refine (later_any w.heap.size a cap zs Y (by have := hW.size; omega) hl hu (fun i hi => by
    obtain ⟨b', off, e1, e2, e3⟩ := h i hi
    exact ⟨b', off, e1, e2, cellB e3 (hb0.trans (hW.mono hb0.size))⟩)).mono ?_
   rintro e x7 ⟨rfl, sx, hbl⟩
   have hb2 : X.heap.size ≤ Y.heap.size := hW.size
   replace hpk := own_below hpk hbl
   generalize hGb : Y.heap.size = b2 at *
   replace hW := hW.trans (hbl.mono (by omega))
   clear hbl hGb
   refine ⟨_, rfl, hnw _ hW, ?_⟩
   simp only [Act.put, List.getElem_toArray, List.getElem_cons_succ, List.getElem_cons_zero, List.setIfInBounds_toArray, List.set_cons_zero, List.set_cons_succ]
   refine call_at 7 (some 25) 65 #[.pointer (some ⟨b2, 0, none⟩), .slice (some ⟨gp, 0, none⟩) 3 3] 5 (by kernel_rfl) (by kernel_rfl) (by kernel_rfl) (by kernel_rfl) (by kernel_rfl) ?_
   refine (pick_any w.heap.size b2 40 gp _ [0, 1, 2] _ sx (by omega) hpk (by simp) (by simp) (by simp [Value.ownBlock]; omega)).mono ?_
   rintro e x9 ⟨cn, rfl, _, _, gn⟩
   have un : Out [b2] _ _ := Out.of_grown gn
   replace hW := Out.keep hW un hW.size (fun k hk => by simp only [List.mem_singleton] at hk; omega)
   clear un gn hpk sx
   refine ⟨_, rfl, hnw _ hW, ?_⟩
   simp only [Act.put, List.getElem_toArray, List.getElem_cons_succ, List.getElem_cons_zero, List.setIfInBounds_toArray, List.set_cons_zero, List.set_cons_succ]
   refine one_at 8 _ 4 (by kernel_rfl) rfl (by kernel_rfl) ?_
   have Rx := R0.below hW
   have Rr := Rx.row #[.bool ch, .slice c1 cbs.length c4, .slice c2 crs.length c5, .slice c3 cds.length c6]
   have hsr : (Tryz.prog.info? 28).map (·.size) = some (#[.bool ch, .slice c1 cbs.length c4, .slice c2 crs.length c5, .slice c3 cds.length c6] : Array Value).size := sz_inst
   have uz : Out [w.heap.size] X (x9.setRow w.heap.size #[.bool ch, .slice c1 cbs.length c4, .slice c2 crs.length c5, .slice c3 cds.length c6]) := (Out.of_below hW).trans (out_row x9 w.heap.size #[.bool ch, .slice c1 cbs.length c4, .slice c2 crs.length c5, .slice c3 cds.length c6])
   have oz := instK.own_out oq uz (fun k hk hk' => by simp only [List.mem_singleton] at hk'; have := low k hk; omega)
   refine st_row (by kernel_rfl) 28 _ _ rfl _ #[.bool ch, .slice c1 cbs.length c4, .slice c2 crs.length c5, .slice c3 cds.length c6] rfl rfl 28 _ Rx hsr rfl (by simp [Value.oneCell']) ?_
   refine ThenGo.to ⟨⟨⟨_, uz⟩, rfl⟩, ?_⟩
   try simp only [Act.put, List.getElem_toArray, List.getElem_cons_succ, List.getElem_cons_zero, List.setIfInBounds_toArray, List.set_cons_zero, List.set_cons_succ]
   refine seg_range [(9, 4)] 0 (by kernel_rfl) (by kernel_rfl) (by kernel_rfl) (by kernel_rfl) (by kernel_rfl) ⟨⟨_, uz⟩, rfl⟩ ?_
   simp only [pickR, List.toList_toArray, List.flatMap_cons, List.flatMap_nil, List.drop_succ_cons, List.drop_zero, List.take_succ_cons, List.take_zero, List.cons_append, List.nil_append, List.append_nil]
   repeat go_big_quiet_step (fail)
   refine wpQuiet_nil ?_
   refine text_end (by kernel_rfl) ?_
   refine ⟨rfl, _, ⟨⟨b2, gp, cn, rfl⟩, oz, Rr, uz⟩, ?_⟩
   simp only [putAll, Act.put, List.getElem_toArray, List.getElem_cons_succ, List.getElem_cons_zero, List.setIfInBounds_toArray, List.set_cons_zero, List.set_cons_succ]
   try rfl
 rintro vs X6 ⟨⟨ba, gp, cn, rfl⟩, ow, Rr, uX⟩
 simp only [putAll, Act.put, List.setIfInBounds_toArray, List.set_cons_zero, List.set_cons_succ]
 have hBz : Below w.heap.size w X6 := Out.keep hb0 uX hb0.size (fun k hk => by simp only [List.mem_singleton] at hk; omega)
 have HQ : Hid (InstQ.n (⟨ch, .slice c1 cbs.length c4, cbs, .slice c2 crs.length c5, crs, .slice c3 cds.length c6, cds⟩ : InstQ) ≤ 1000 ∧ instK.own X6 (⟨ch, .slice c1 cbs.length c4, cbs, .slice c2 crs.length c5, crs, .slice c3 cds.length c6, cds⟩ : InstQ) ∧ ∀ k ∈ instK.foot (⟨ch, .slice c1 cbs.length c4, cbs, .slice c2 crs.length c5, crs, .slice c3 cds.length c6, cds⟩ : InstQ), w.heap.size ≤ k) := ⟨hn, ow, fun k hk => by have := low k hk; omega⟩
 have q0 := Rr.cell 0 _ rfl
 have q1 := Rr.cell 1 _ rfl
 have q2 := Rr.cell 2 _ rfl
 have q3 := Rr.cell 3 _ rfl
 clear ow uX k0 k1 k2 k3 Bx R0 oq low hn
 go_wp2
 exact bodyPost_ret (v := .tuple #[.agg #[.bool ch, .slice c1 cbs.length c4, .slice c2 crs.length c5, .slice c3 cds.length c6], .int .i64 n1, .int .i64 r1, .int .i64 m1, .int .i64 cn]) (by simp [results, Tryz.results17, go_sem, q0, q1, q2, q3]) rfl ⟨(⟨ch, .slice c1 cbs.length c4, cbs, .slice c2 crs.length c5, crs, .slice c3 cds.length c6, cds⟩ : InstQ), n1, r1, m1, cn, rfl, HQ.out.1, HQ.out.2.1, HQ.out.2.2, hBz⟩

end Go.Proofs.YtmgkjcobdmdjmaaGreatDoor
namespace Go.Proofs.YtmgkjcobdmdjmaaGreatDoor
open Go.RowKit
open Go.BigFrame
set_option linter.unusedVariables false
set_option maxRecDepth 100000
set_option linter.unusedSimpArgs false
set_option maxHeartbeats 1000000 in
theorem chance_any (B b T : Nat) (n : Int) (w : World) (hS : Src B w b T) (hT : T ≤ 1099511627776) (hn : n ≤ 1099511627776) :
  Calls Tryz.prog 58 #[.pointer (some ⟨b, 0, none⟩), .int .i64 n] w fun e w' => ∃ t : Bool, e = .returned (.bool t) ∧ Src B w' b (T + 1) ∧ w.grownBy w' (some b) := by
 go_enter Tryz.func58, Tryz.ntmps58
 go_wp2_with fail
 refine (next_any B b T n w hS hT hn).mono ?_
 rintro e w1 ⟨r, rfl, hr, hS1, hg⟩
 go_wp2
 go_ret
 exact ⟨_, rfl, hS1, hg⟩

set_option maxRecDepth 100000 in
set_option maxHeartbeats 8000000 in
theorem drawFirstReport_any (a : Option Addr) (cap : Nat) (zs : List Int) (w : World) (h : Row .u8 w a zs) (hu : ∀ i, 0 ≤ zs.getD i 0 ∧ zs.getD i 0 ≤ 255) (hl : zs.length ≤ 1048576) :
  Calls Tryz.prog 13 #[.slice a zs.length cap] w fun e w' => ∃ (q : InstQ) (n1 v1 : Int), e = .returned (.tuple #[.agg #[.bool q.has, q.vb, q.vr, q.vd], .int .i64 n1, .int .i64 v1]) ∧ q.n ≤ 1000 ∧ instK.own w' q ∧ (∀ k ∈ instK.foot q, w.heap.size ≤ k) ∧ Below w.heap.size w w' := by
 have hb0 : Below w.heap.size w (w.alloc (.cells #[.bool false, .slice none 0 0, .slice none 0 0, .slice none 0 0] 28)) := by go_grown
 have R0 := Blk.new w 28 #[.bool false, .slice none 0 0, .slice none 0 0, .slice none 0 0]
 have hW1 : w.heap.size < (w.alloc (.cells #[.bool false, .slice none 0 0, .slice none 0 0, .slice none 0 0] 28)).heap.size := by simp
 have hby : ∀ i, i < zs.length → ∃ b' off, a = some ⟨b', off, none⟩ ∧ b' < w.heap.size ∧ (w.alloc (.cells #[.bool false, .slice none 0 0, .slice none 0 0, .slice none 0 0] 28)).cell? ⟨b', off + i, none⟩ = some (.int .u8 (zs.getD i 0)) := fun i hi => by
  obtain ⟨b', off, e1, e2, e3⟩ := h i hi
  exact ⟨b', off, e1, e2, cellB e3 hb0⟩
 go_enter Tryz.func13, Tryz.ntmps13
 go_wp2_with fail
 generalize w.alloc (.cells #[.bool false, .slice none 0 0, .slice none 0 0, .slice none 0 0] 28) = W at *
 refine (source_any w.heap.size a cap zs W hb0.size hl hu hby).mono ?_
 rintro e x1 ⟨rfl, hS, hb1⟩
 replace R0 := R0.below hb1
 replace hb0 := hb0.trans (hb1.mono hb0.size)
 generalize hbb : W.heap.size = b at *
 clear hb1 hby
 obtain ⟨B, HB⟩ : ∃ B, Hid (w.heap.size = B) := ⟨_, rfl⟩
 rw [HB.out] at hS
 clear hbb
 go_wp2_with fail
 refine (l6Draw_any B b 0 6 x1 hS (by omega) (by omega)).mono ?_
 rintro e x2 ⟨q, rfl, hi, oq, nq, gq, hSn, hgn⟩
 have hx1 := hS.lt
 have hU : Out [b] _ _ := Out.of_grown hgn
 replace R0 := R0.outs hU (fun hk => by simp only [List.mem_singleton] at hk; omega)
 replace hb0 := Out.keep hb0 hU hb0.size (fun k hk => by simp only [List.mem_singleton] at hk; omega)
 replace hS := hSn
 have hm := instK.own_lt oq
 have hn : q.n ≤ 1000 := by rw [inst_ne]; have := ins_small hi; omega
 clear hSn hgn hU nq hi
 obtain ⟨ch, cb, cbs, cr, crs, cd, cds⟩ := q
 obtain ⟨c1, c4, rfl⟩ : ∃ a c, cb = .slice a cbs.length c := oq.1.shape
 obtain ⟨c2, c5, rfl⟩ : ∃ a c, cr = .slice a crs.length c := oq.2.1.shape
 obtain ⟨c3, c6, rfl⟩ : ∃ a c, cd = .slice a cds.length c := oq.2.2.shape
 have hbA : Below x2.heap.size x2 (x2.alloc (.cells #[.bool ch, .slice c1 cbs.length c4, .slice c2 crs.length c5, .slice c3 cds.length c6] 28)) := by go_grown
 have Bx := Blk.new x2 28 #[.bool ch, .slice c1 cbs.length c4, .slice c2 crs.length c5, .slice c3 cds.length c6]
 have hgw : w.heap.size < x2.heap.size := R0.lt
 have hgb : b < x2.heap.size := hS.lt.2
 replace R0 := R0.below hbA
 replace hS := hS.below hbA
 replace hb0 := hb0.trans (hbA.mono hb0.size)
 replace oq := instK.own_out (F := []) oq (Out.of_below hbA) (fun _ _ => by simp)
 have low : ∀ k ∈ instK.foot (⟨ch, .slice c1 cbs.length c4, cbs, .slice c2 crs.length c5, crs, .slice c3 cds.length c6, cds⟩ : InstQ), b < k ∧ k ≠ x2.heap.size := fun k hk => ⟨by have := gq k hk; omega, by have := hm k hk; omega⟩
 clear hbA gq hm
 go_wp2_with fail
 generalize hgx : x2.heap.size = g at *
 generalize x2.alloc (.cells #[.bool ch, .slice c1 cbs.length c4, .slice c2 crs.length c5, .slice c3 cds.length c6] 28) = X1 at *
 clear hgx
 refine (chance_any B b (0 + 2500) 3 X1 hS (by omega) (by omega)).mono ?_
 rintro e X ⟨cb9, rfl, hSn, hgn⟩
 have hU : Out [b] _ _ := Out.of_grown hgn
 replace R0 := R0.outs hU (fun hk => by simp only [List.mem_singleton] at hk; omega)
 replace Bx := Bx.outs hU (fun hk => by simp only [List.mem_singleton] at hk; omega)
 replace hb0 := Out.keep hb0 hU hb0.size (fun k hk => by simp only [List.mem_singleton] at hk; omega)
 replace hS := hSn
 replace oq := instK.own_out oq hU (fun k hk hk' => by simp only [List.mem_singleton] at hk'; have := low k hk; omega)
 clear hSn hgn hU
 cases cb9 with
 | false =>
  go_wp2_with fail
  have hsub : ∀ k ∈ [b], k ∈ [b, w.heap.size] := fun k hk => by simp only [List.mem_singleton] at hk; simp [hk]
  have k0 := lato_cell (F := [b, w.heap.size]) (Bx.cell 0 _ rfl) (by simp only [List.mem_cons, List.not_mem_nil, or_false]; omega)
  have k1 := lato_cell (F := [b, w.heap.size]) (Bx.cell 1 _ rfl) (by simp only [List.mem_cons, List.not_mem_nil, or_false]; omega)
  have k2 := lato_cell (F := [b, w.heap.size]) (Bx.cell 2 _ rfl) (by simp only [List.mem_cons, List.not_mem_nil, or_false]; omega)
  have k3 := lato_cell (F := [b, w.heap.size]) (Bx.cell 3 _ rfl) (by simp only [List.mem_cons, List.not_mem_nil, or_false]; omega)
  refine region_vals [some 15, some 16, some 17, some 18, some 19, some 20, some 21, some 3, some 4] (fun vs w' => (∃ (nd vd : Int) (gp : Nat), vs = [.agg #[.bool ch, .slice c1 cbs.length c4, .slice c2 crs.length c5, .slice c3 cds.length c6], .pointer (some ⟨b, 0, none⟩), .int .i64 nd, .int .i64 (nd - 1), .pointer (some ⟨b, 0, none⟩), .slice (some ⟨gp, 0, none⟩) 3 3, .int .i64 vd, .int .i64 (nd - 1), .int .i64 vd]) ∧ instK.own w' (⟨ch, .slice c1 cbs.length c4, cbs, .slice c2 crs.length c5, crs, .slice c3 cds.length c6, cds⟩ : InstQ) ∧ Blk w' w.heap.size 28 #[.bool ch, .slice c1 cbs.length c4, .slice c2 crs.length c5, .slice c3 cds.length c6] ∧ Out [b, w.heap.size] X w') ?_ ?_
  ·have sx : Src B X.drew b (0 + 2500 + 1) := hS.below ((Below.refl _ _).drew)
   have ux : Out [b] X X.drew := Out.of_below ((Below.refl _ _).drew)
   have hnn : Nonempty (LatO [b, w.heap.size] X) := ⟨⟨X, Out.refl _ _⟩⟩
   refine text_begin (S := fun w' => ∃ u : LatO [b, w.heap.size] X, w' = u.val) (by kernel_rfl) ?_
   refine seg_range [(0, 2), (4, 1)] 7 (by kernel_rfl) (by kernel_rfl) (by kernel_rfl) (by kernel_rfl) (by kernel_rfl) ⟨⟨_, ux.mono hsub⟩, rfl⟩ ?_
   simp only [pickR, List.toList_toArray, List.flatMap_cons, List.flatMap_nil, List.drop_succ_cons, List.drop_zero, List.take_succ_cons, List.take_zero, List.cons_append, List.nil_append, List.append_nil]
   repeat go_big_quiet_step (fail)
   refine wpQuiet_nil ?_
   clear k0 k1 k2 k3
   generalize X.drew = wd at sx ux ⊢
   refine two_at 2 5 6 (by kernel_rfl) (by kernel_rfl) ?_ ?_
   ·skip
    refine op_call 2 (some 17) 64 #[.pointer (some ⟨b, 0, none⟩), .int .i64 5] (by kernel_rfl) (by kernel_rfl) (by kernel_rfl) ?_
    refine (next_any B b (0 + 2500 + 1) 5 _ sx (by omega) (by omega)).mono ?_
    rintro e x7 ⟨nd, rfl, hnd, sn', gn⟩
    have hnd0 := hnd.1
    have hnd5 := hnd.2.1 (by omega)
    replace sx := sn'
    have un : Out [b] _ _ := Out.of_grown gn
    replace ux := ux.trans un
    clear un gn sn' hnd
    refine ⟨_, rfl, ⟨⟨_, ux.mono hsub⟩, rfl⟩, ?_⟩
    simp only [Act.put, List.getElem_toArray, List.getElem_cons_succ, List.getElem_cons_zero, List.setIfInBounds_toArray, List.set_cons_zero, List.set_cons_succ]
    refine seg_range [(3, 1)] 5 (by kernel_rfl) (by kernel_rfl) (by kernel_rfl) (by kernel_rfl) (by kernel_rfl) ⟨⟨_, ux.mono hsub⟩, rfl⟩ ?_
    simp only [pickR, List.toList_toArray, List.flatMap_cons, List.flatMap_nil, List.drop_succ_cons, List.drop_zero, List.take_succ_cons, List.take_zero, List.cons_append, List.nil_append, List.append_nil]
    repeat go_big_quiet_step (fail)
    refine wpQuiet_nil ?_
    refine one_at 5 _ 4 (by kernel_rfl) rfl (by kernel_rfl) ?_
    have hpk := World.ownsRow_lit (e := 2) (size := 1) x7 #[.int .i64 0, .int .i64 1, .int .i64 2] 3 (Nat.le_refl _) (by decide) rfl
    have hbg : b < x7.heap.size := sx.lt.2
    have hba : Below x7.heap.size x7 (x7.alloc (.cells #[.int .i64 0, .int .i64 1, .int .i64 2] 2)) := by go_grown
    replace sx := sx.below hba
    replace ux := ux.trans (Out.of_below hba)
    clear hba
    go_wp2
    refine ThenGo.to ⟨⟨⟨_, ux.mono hsub⟩, rfl⟩, ?_⟩
    generalize hGp : x7.heap.size = gp at *
    clear hGp
    generalize x7.alloc (.cells #[.int .i64 0, .int .i64 1, .int .i64 2] 2) = Y at *
    refine call_at 6 (some 21) 65 #[.pointer (some ⟨b, 0, none⟩), .slice (some ⟨gp, 0, none⟩) 3 3] 3 (by kernel_rfl) (by kernel_rfl) (by kernel_rfl) (by kernel_rfl) (by kernel_rfl) ?_
    refine (pick_any B b (0 + 2500 + 1 + 1) gp _ [0, 1, 2] _ sx (by omega) hpk (by simp) (by simp) (by simp [Value.ownBlock]; omega)).mono ?_
    rintro e x9 ⟨vd, rfl, _, sn', gn⟩
    have un : Out [b] _ _ := Out.of_grown gn
    replace ux := ux.trans un
    clear un gn sn' hpk sx
    refine ⟨_, rfl, ⟨⟨_, ux.mono hsub⟩, rfl⟩, ?_⟩
    simp only [Act.put, List.getElem_toArray, List.getElem_cons_succ, List.getElem_cons_zero, List.setIfInBounds_toArray, List.set_cons_zero, List.set_cons_succ]
    refine one_at 7 _ 2 (by kernel_rfl) rfl (by kernel_rfl) ?_
    have Rx := R0.outs ux (fun hk => by simp only [List.mem_singleton] at hk; omega)
    have Rr := Rx.row #[.bool ch, .slice c1 cbs.length c4, .slice c2 crs.length c5, .slice c3 cds.length c6]
    have hsr : (Tryz.prog.info? 28).map (·.size) = some (#[.bool ch, .slice c1 cbs.length c4, .slice c2 crs.length c5, .slice c3 cds.length c6] : Array Value).size := sz_inst
    have uz : Out [b, w.heap.size] X (x9.setRow w.heap.size #[.bool ch, .slice c1 cbs.length c4, .slice c2 crs.length c5, .slice c3 cds.length c6]) := (ux.mono hsub).trans ((out_row x9 w.heap.size #[.bool ch, .slice c1 cbs.length c4, .slice c2 crs.length c5, .slice c3 cds.length c6]).mono (fun k hk => by simp only [List.mem_singleton] at hk; simp [hk]))
    have oz := instK.own_out oq uz (fun k hk hk' => by simp only [List.mem_cons, List.not_mem_nil, or_false] at hk'; have := low k hk; omega)
    refine st_row (by kernel_rfl) 28 _ _ rfl _ #[.bool ch, .slice c1 cbs.length c4, .slice c2 crs.length c5, .slice c3 cds.length c6] rfl rfl 28 _ Rx hsr rfl (by simp [Value.oneCell']) ?_
    refine ThenGo.to ⟨⟨⟨_, uz⟩, rfl⟩, ?_⟩
    try simp only [Act.put, List.getElem_toArray, List.getElem_cons_succ, List.getElem_cons_zero, List.setIfInBounds_toArray, List.set_cons_zero, List.set_cons_succ]
    refine seg_range [(8, 2)] 0 (by kernel_rfl) (by kernel_rfl) (by kernel_rfl) (by kernel_rfl) (by kernel_rfl) ⟨⟨_, uz⟩, rfl⟩ ?_
    simp only [pickR, List.toList_toArray, List.flatMap_cons, List.flatMap_nil, List.drop_succ_cons, List.drop_zero, List.take_succ_cons, List.take_zero, List.cons_append, List.nil_append, List.append_nil]
    repeat go_big_quiet_step (fail)
    refine wpQuiet_nil ?_
    refine text_end (by kernel_rfl) ?_
    refine ⟨rfl, _, ⟨⟨nd, vd, gp, rfl⟩, oz, Rr, uz⟩, ?_⟩
    simp only [putAll, Act.put, List.getElem_toArray, List.getElem_cons_succ, List.getElem_cons_zero, List.setIfInBounds_toArray, List.set_cons_zero, List.set_cons_succ]
    try rfl
   ·skip
    refine op_one 5 _ rfl ?_
    have hpk := World.ownsRow_lit (e := 2) (size := 1) wd #[.int .i64 0, .int .i64 1, .int .i64 2] 3 (Nat.le_refl _) (by decide) rfl
    have hbg : b < wd.heap.size := sx.lt.2
    have hba : Below wd.heap.size wd (wd.alloc (.cells #[.int .i64 0, .int .i64 1, .int .i64 2] 2)) := by go_grown
    replace sx := sx.below hba
    replace ux := ux.trans (Out.of_below hba)
    clear hba
    go_wp2
    refine ThenGo.to ⟨⟨⟨_, ux.mono hsub⟩, rfl⟩, ?_⟩
    generalize hGp : wd.heap.size = gp at *
    clear hGp
    generalize wd.alloc (.cells #[.int .i64 0, .int .i64 1, .int .i64 2] 2) = Y at *
    refine call_at 2 (some 17) 64 #[.pointer (some ⟨b, 0, none⟩), .int .i64 5] 5 (by kernel_rfl) (by kernel_rfl) (by kernel_rfl) (by kernel_rfl) (by kernel_rfl) ?_
    refine (next_any B b (0 + 2500 + 1) 5 _ sx (by omega) (by omega)).mono ?_
    rintro e x7 ⟨nd, rfl, hnd, sn', gn⟩
    have hnd0 := hnd.1
    have hnd5 := hnd.2.1 (by omega)
    replace sx := sn'
    have un : Out [b] _ _ := Out.of_grown gn
    replace ux := ux.trans un
    replace hpk := hpk.kept gn (Or.inr (by simp [Value.ownBlock]; omega))
    clear un gn sn' hnd
    refine ⟨_, rfl, ⟨⟨_, ux.mono hsub⟩, rfl⟩, ?_⟩
    simp only [Act.put, List.getElem_toArray, List.getElem_cons_succ, List.getElem_cons_zero, List.setIfInBounds_toArray, List.set_cons_zero, List.set_cons_succ]
    refine seg_range [(3, 1)] 4 (by kernel_rfl) (by kernel_rfl) (by kernel_rfl) (by kernel_rfl) (by kernel_rfl) ⟨⟨_, ux.mono hsub⟩, rfl⟩ ?_
    simp only [pickR, List.toList_toArray, List.flatMap_cons, List.flatMap_nil, List.drop_succ_cons, List.drop_zero, List.take_succ_cons, List.take_zero, List.cons_append, List.nil_append, List.append_nil]
    repeat go_big_quiet_step (fail)
    refine wpQuiet_nil ?_
    refine call_at 6 (some 21) 65 #[.pointer (some ⟨b, 0, none⟩), .slice (some ⟨gp, 0, none⟩) 3 3] 3 (by kernel_rfl) (by kernel_rfl) (by kernel_rfl) (by kernel_rfl) (by kernel_rfl) ?_
    refine (pick_any B b (0 + 2500 + 1 + 1) gp _ [0, 1, 2] _ sx (by omega) hpk (by simp) (by simp) (by simp [Value.ownBlock]; omega)).mono ?_
    rintro e x9 ⟨vd, rfl, _, sn', gn⟩
    have un : Out [b] _ _ := Out.of_grown gn
    replace ux := ux.trans un
    clear un gn sn' hpk sx
    refine ⟨_, rfl, ⟨⟨_, ux.mono hsub⟩, rfl⟩, ?_⟩
    simp only [Act.put, List.getElem_toArray, List.getElem_cons_succ, List.getElem_cons_zero, List.setIfInBounds_toArray, List.set_cons_zero, List.set_cons_succ]
    refine one_at 7 _ 2 (by kernel_rfl) rfl (by kernel_rfl) ?_
    have Rx := R0.outs ux (fun hk => by simp only [List.mem_singleton] at hk; omega)
    have Rr := Rx.row #[.bool ch, .slice c1 cbs.length c4, .slice c2 crs.length c5, .slice c3 cds.length c6]
    have hsr : (Tryz.prog.info? 28).map (·.size) = some (#[.bool ch, .slice c1 cbs.length c4, .slice c2 crs.length c5, .slice c3 cds.length c6] : Array Value).size := sz_inst
    have uz : Out [b, w.heap.size] X (x9.setRow w.heap.size #[.bool ch, .slice c1 cbs.length c4, .slice c2 crs.length c5, .slice c3 cds.length c6]) := (ux.mono hsub).trans ((out_row x9 w.heap.size #[.bool ch, .slice c1 cbs.length c4, .slice c2 crs.length c5, .slice c3 cds.length c6]).mono (fun k hk => by simp only [List.mem_singleton] at hk; simp [hk]))
    have oz := instK.own_out oq uz (fun k hk hk' => by simp only [List.mem_cons, List.not_mem_nil, or_false] at hk'; have := low k hk; omega)
    refine st_row (by kernel_rfl) 28 _ _ rfl _ #[.bool ch, .slice c1 cbs.length c4, .slice c2 crs.length c5, .slice c3 cds.length c6] rfl rfl 28 _ Rx hsr rfl (by simp [Value.oneCell']) ?_
    refine ThenGo.to ⟨⟨⟨_, uz⟩, rfl⟩, ?_⟩
    try simp only [Act.put, List.getElem_toArray, List.getElem_cons_succ, List.getElem_cons_zero, List.setIfInBounds_toArray, List.set_cons_zero, List.set_cons_succ]
    refine seg_range [(8, 2)] 0 (by kernel_rfl) (by kernel_rfl) (by kernel_rfl) (by kernel_rfl) (by kernel_rfl) ⟨⟨_, uz⟩, rfl⟩ ?_
    simp only [pickR, List.toList_toArray, List.flatMap_cons, List.flatMap_nil, List.drop_succ_cons, List.drop_zero, List.take_succ_cons, List.take_zero, List.cons_append, List.nil_append, List.append_nil]
    repeat go_big_quiet_step (fail)
    refine wpQuiet_nil ?_
    refine text_end (by kernel_rfl) ?_
    refine ⟨rfl, _, ⟨⟨nd, vd, gp, rfl⟩, oz, Rr, uz⟩, ?_⟩
    simp only [putAll, Act.put, List.getElem_toArray, List.getElem_cons_succ, List.getElem_cons_zero, List.setIfInBounds_toArray, List.set_cons_zero, List.set_cons_succ]
    try rfl
  rintro vs X6 ⟨⟨nd, vd, gp, rfl⟩, ow, Rr, uX⟩
  simp only [putAll, Act.put, List.setIfInBounds_toArray, List.set_cons_zero, List.set_cons_succ]
  have hBz : Below w.heap.size w X6 := Out.keep hb0 uX hb0.size (fun k hk => by simp only [List.mem_cons, List.not_mem_nil, or_false] at hk; omega)
  have HQ : Hid (InstQ.n (⟨ch, .slice c1 cbs.length c4, cbs, .slice c2 crs.length c5, crs, .slice c3 cds.length c6, cds⟩ : InstQ) ≤ 1000 ∧ instK.own X6 (⟨ch, .slice c1 cbs.length c4, cbs, .slice c2 crs.length c5, crs, .slice c3 cds.length c6, cds⟩ : InstQ) ∧ ∀ k ∈ instK.foot (⟨ch, .slice c1 cbs.length c4, cbs, .slice c2 crs.length c5, crs, .slice c3 cds.length c6, cds⟩ : InstQ), w.heap.size ≤ k) := ⟨hn, ow, fun k hk => by have := low k hk; omega⟩
  have q0 := Rr.cell 0 _ rfl
  have q1 := Rr.cell 1 _ rfl
  have q2 := Rr.cell 2 _ rfl
  have q3 := Rr.cell 3 _ rfl
  clear ow uX k0 k1 k2 k3 Bx R0 hS oq low hn
  go_wp2
  exact bodyPost_ret (v := .tuple #[.agg #[.bool ch, .slice c1 cbs.length c4, .slice c2 crs.length c5, .slice c3 cds.length c6], .int .i64 (nd - 1), .int .i64 vd]) (by simp [results, Tryz.results13, go_sem, q0, q1, q2, q3]) rfl ⟨(⟨ch, .slice c1 cbs.length c4, cbs, .slice c2 crs.length c5, crs, .slice c3 cds.length c6, cds⟩ : InstQ), nd - 1, vd, rfl, HQ.out.1, HQ.out.2.1, HQ.out.2.2, hBz⟩

 | true =>
  go_wp2_with fail
  refine (l6Bent_any B b (0 + 2500 + 1) X hS (by omega)).mono ?_
  rintro e x5 ⟨q5, rfl, hn5, o5, n5, g5, hSn, hgn⟩
  have hgX := Bx.lt
  have hU : Out [b] _ _ := Out.of_grown hgn
  replace R0 := R0.outs hU (fun hk => by simp only [List.mem_singleton] at hk; omega)
  replace Bx := Bx.outs hU (fun hk => by simp only [List.mem_singleton] at hk; omega)
  replace hb0 := Out.keep hb0 hU hb0.size (fun k hk => by simp only [List.mem_singleton] at hk; omega)
  replace hS := hSn
  clear hSn hgn hU oq low hn n5
  obtain ⟨dh, db, dbs, dr, drs, dd, dds⟩ := q5
  obtain ⟨d1, d4, rfl⟩ : ∃ a c, db = .slice a dbs.length c := o5.1.shape
  obtain ⟨d2, d5, rfl⟩ : ∃ a c, dr = .slice a drs.length c := o5.2.1.shape
  obtain ⟨d3, d6, rfl⟩ : ∃ a c, dd = .slice a dds.length c := o5.2.2.shape
  have Br := Bx.row #[.bool dh, .slice d1 dbs.length d4, .slice d2 drs.length d5, .slice d3 dds.length d6]
  have hsr5 : (Tryz.prog.info? 28).map (·.size) = some (#[.bool dh, .slice d1 dbs.length d4, .slice d2 drs.length d5, .slice d3 dds.length d6] : Array Value).size := sz_inst
  have hUr := out_row x5 g #[.bool dh, .slice d1 dbs.length d4, .slice d2 drs.length d5, .slice d3 dds.length d6]
  have R5 := R0.outs hUr (fun hk => by simp only [List.mem_singleton] at hk; omega)
  have S5 := hS.out hUr (by simp only [List.mem_singleton]; omega) (fun k hk => by simp only [List.mem_singleton] at hk; have := HB.out; omega)
  have b5 := Out.keep hb0 hUr hb0.size (fun k hk => by simp only [List.mem_singleton] at hk; omega)
  have o5' := instK.own_out o5 hUr (fun k hk hk' => by simp only [List.mem_singleton] at hk'; have := g5 k hk; omega)
  have low5 : ∀ k ∈ instK.foot (⟨dh, .slice d1 dbs.length d4, dbs, .slice d2 drs.length d5, drs, .slice d3 dds.length d6, dds⟩ : InstQ), b < k ∧ k ≠ g := fun k hk => by have := g5 k hk; omega
  go_wp2_with (first | (refine st_row (by kernel_rfl) 28 _ _ rfl _ #[.bool dh, .slice d1 dbs.length d4, .slice d2 drs.length d5, .slice d3 dds.length d6] rfl rfl 28 _ Bx hsr5 rfl (by simp [Value.oneCell']) ?_))
  try simp only [Act.put]
  clear Bx R0 hS hb0 o5 hUr hsr5 g5
  generalize x5.setRow g #[.bool dh, .slice d1 dbs.length d4, .slice d2 drs.length d5, .slice d3 dds.length d6] = X at *
  have Bx := Br
  have R0 := R5
  have hS := S5
  have hb0 := b5
  have oq := o5'
  have low := low5
  have hn := hn5
  clear Br R5 S5 b5 o5' low5 hn5
  have hsub : ∀ k ∈ [b], k ∈ [b, w.heap.size] := fun k hk => by simp only [List.mem_singleton] at hk; simp [hk]
  have k0 := lato_cell (F := [b, w.heap.size]) (Bx.cell 0 _ rfl) (by simp only [List.mem_cons, List.not_mem_nil, or_false]; omega)
  have k1 := lato_cell (F := [b, w.heap.size]) (Bx.cell 1 _ rfl) (by simp only [List.mem_cons, List.not_mem_nil, or_false]; omega)
  have k2 := lato_cell (F := [b, w.heap.size]) (Bx.cell 2 _ rfl) (by simp only [List.mem_cons, List.not_mem_nil, or_false]; omega)
  have k3 := lato_cell (F := [b, w.heap.size]) (Bx.cell 3 _ rfl) (by simp only [List.mem_cons, List.not_mem_nil, or_false]; omega)
  refine region_vals [some 15, some 16, some 17, some 18, some 19, some 20, some 21, some 3, some 4] (fun vs w' => (∃ (nd vd : Int) (gp : Nat), vs = [.agg #[.bool dh, .slice d1 dbs.length d4, .slice d2 drs.length d5, .slice d3 dds.length d6], .pointer (some ⟨b, 0, none⟩), .int .i64 nd, .int .i64 (nd - 1), .pointer (some ⟨b, 0, none⟩), .slice (some ⟨gp, 0, none⟩) 3 3, .int .i64 vd, .int .i64 (nd - 1), .int .i64 vd]) ∧ instK.own w' (⟨dh, .slice d1 dbs.length d4, dbs, .slice d2 drs.length d5, drs, .slice d3 dds.length d6, dds⟩ : InstQ) ∧ Blk w' w.heap.size 28 #[.bool dh, .slice d1 dbs.length d4, .slice d2 drs.length d5, .slice d3 dds.length d6] ∧ Out [b, w.heap.size] X w') ?_ ?_
  ·have sx : Src B X.drew b (0 + 2500 + 1 + 2600) := hS.below ((Below.refl _ _).drew)
   have ux : Out [b] X X.drew := Out.of_below ((Below.refl _ _).drew)
   have hnn : Nonempty (LatO [b, w.heap.size] X) := ⟨⟨X, Out.refl _ _⟩⟩
   refine text_begin (S := fun w' => ∃ u : LatO [b, w.heap.size] X, w' = u.val) (by kernel_rfl) ?_
   refine seg_range [(0, 2), (4, 1)] 7 (by kernel_rfl) (by kernel_rfl) (by kernel_rfl) (by kernel_rfl) (by kernel_rfl) ⟨⟨_, ux.mono hsub⟩, rfl⟩ ?_
   simp only [pickR, List.toList_toArray, List.flatMap_cons, List.flatMap_nil, List.drop_succ_cons, List.drop_zero, List.take_succ_cons, List.take_zero, List.cons_append, List.nil_append, List.append_nil]
   repeat go_big_quiet_step (fail)
   refine wpQuiet_nil ?_
   clear k0 k1 k2 k3
   generalize X.drew = wd at sx ux ⊢
   refine two_at 2 5 6 (by kernel_rfl) (by kernel_rfl) ?_ ?_
   ·skip
    refine op_call 2 (some 17) 64 #[.pointer (some ⟨b, 0, none⟩), .int .i64 5] (by kernel_rfl) (by kernel_rfl) (by kernel_rfl) ?_
    refine (next_any B b (0 + 2500 + 1 + 2600) 5 _ sx (by omega) (by omega)).mono ?_
    rintro e x7 ⟨nd, rfl, hnd, sn', gn⟩
    have hnd0 := hnd.1
    have hnd5 := hnd.2.1 (by omega)
    replace sx := sn'
    have un : Out [b] _ _ := Out.of_grown gn
    replace ux := ux.trans un
    clear un gn sn' hnd
    refine ⟨_, rfl, ⟨⟨_, ux.mono hsub⟩, rfl⟩, ?_⟩
    simp only [Act.put, List.getElem_toArray, List.getElem_cons_succ, List.getElem_cons_zero, List.setIfInBounds_toArray, List.set_cons_zero, List.set_cons_succ]
    refine seg_range [(3, 1)] 5 (by kernel_rfl) (by kernel_rfl) (by kernel_rfl) (by kernel_rfl) (by kernel_rfl) ⟨⟨_, ux.mono hsub⟩, rfl⟩ ?_
    simp only [pickR, List.toList_toArray, List.flatMap_cons, List.flatMap_nil, List.drop_succ_cons, List.drop_zero, List.take_succ_cons, List.take_zero, List.cons_append, List.nil_append, List.append_nil]
    repeat go_big_quiet_step (fail)
    refine wpQuiet_nil ?_
    refine one_at 5 _ 4 (by kernel_rfl) rfl (by kernel_rfl) ?_
    have hpk := World.ownsRow_lit (e := 2) (size := 1) x7 #[.int .i64 0, .int .i64 1, .int .i64 2] 3 (Nat.le_refl _) (by decide) rfl
    have hbg : b < x7.heap.size := sx.lt.2
    have hba : Below x7.heap.size x7 (x7.alloc (.cells #[.int .i64 0, .int .i64 1, .int .i64 2] 2)) := by go_grown
    replace sx := sx.below hba
    replace ux := ux.trans (Out.of_below hba)
    clear hba
    go_wp2
    refine ThenGo.to ⟨⟨⟨_, ux.mono hsub⟩, rfl⟩, ?_⟩
    generalize hGp : x7.heap.size = gp at *
    clear hGp
    generalize x7.alloc (.cells #[.int .i64 0, .int .i64 1, .int .i64 2] 2) = Y at *
    refine call_at 6 (some 21) 65 #[.pointer (some ⟨b, 0, none⟩), .slice (some ⟨gp, 0, none⟩) 3 3] 3 (by kernel_rfl) (by kernel_rfl) (by kernel_rfl) (by kernel_rfl) (by kernel_rfl) ?_
    refine (pick_any B b (0 + 2500 + 1 + 2600 + 1) gp _ [0, 1, 2] _ sx (by omega) hpk (by simp) (by simp) (by simp [Value.ownBlock]; omega)).mono ?_
    rintro e x9 ⟨vd, rfl, _, sn', gn⟩
    have un : Out [b] _ _ := Out.of_grown gn
    replace ux := ux.trans un
    clear un gn sn' hpk sx
    refine ⟨_, rfl, ⟨⟨_, ux.mono hsub⟩, rfl⟩, ?_⟩
    simp only [Act.put, List.getElem_toArray, List.getElem_cons_succ, List.getElem_cons_zero, List.setIfInBounds_toArray, List.set_cons_zero, List.set_cons_succ]
    refine one_at 7 _ 2 (by kernel_rfl) rfl (by kernel_rfl) ?_
    have Rx := R0.outs ux (fun hk => by simp only [List.mem_singleton] at hk; omega)
    have Rr := Rx.row #[.bool dh, .slice d1 dbs.length d4, .slice d2 drs.length d5, .slice d3 dds.length d6]
    have hsr : (Tryz.prog.info? 28).map (·.size) = some (#[.bool dh, .slice d1 dbs.length d4, .slice d2 drs.length d5, .slice d3 dds.length d6] : Array Value).size := sz_inst
    have uz : Out [b, w.heap.size] X (x9.setRow w.heap.size #[.bool dh, .slice d1 dbs.length d4, .slice d2 drs.length d5, .slice d3 dds.length d6]) := (ux.mono hsub).trans ((out_row x9 w.heap.size #[.bool dh, .slice d1 dbs.length d4, .slice d2 drs.length d5, .slice d3 dds.length d6]).mono (fun k hk => by simp only [List.mem_singleton] at hk; simp [hk]))
    have oz := instK.own_out oq uz (fun k hk hk' => by simp only [List.mem_cons, List.not_mem_nil, or_false] at hk'; have := low k hk; omega)
    refine st_row (by kernel_rfl) 28 _ _ rfl _ #[.bool dh, .slice d1 dbs.length d4, .slice d2 drs.length d5, .slice d3 dds.length d6] rfl rfl 28 _ Rx hsr rfl (by simp [Value.oneCell']) ?_
    refine ThenGo.to ⟨⟨⟨_, uz⟩, rfl⟩, ?_⟩
    try simp only [Act.put, List.getElem_toArray, List.getElem_cons_succ, List.getElem_cons_zero, List.setIfInBounds_toArray, List.set_cons_zero, List.set_cons_succ]
    refine seg_range [(8, 2)] 0 (by kernel_rfl) (by kernel_rfl) (by kernel_rfl) (by kernel_rfl) (by kernel_rfl) ⟨⟨_, uz⟩, rfl⟩ ?_
    simp only [pickR, List.toList_toArray, List.flatMap_cons, List.flatMap_nil, List.drop_succ_cons, List.drop_zero, List.take_succ_cons, List.take_zero, List.cons_append, List.nil_append, List.append_nil]
    repeat go_big_quiet_step (fail)
    refine wpQuiet_nil ?_
    refine text_end (by kernel_rfl) ?_
    refine ⟨rfl, _, ⟨⟨nd, vd, gp, rfl⟩, oz, Rr, uz⟩, ?_⟩
    simp only [putAll, Act.put, List.getElem_toArray, List.getElem_cons_succ, List.getElem_cons_zero, List.setIfInBounds_toArray, List.set_cons_zero, List.set_cons_succ]
    try rfl
   ·skip
    refine op_one 5 _ rfl ?_
    have hpk := World.ownsRow_lit (e := 2) (size := 1) wd #[.int .i64 0, .int .i64 1, .int .i64 2] 3 (Nat.le_refl _) (by decide) rfl
    have hbg : b < wd.heap.size := sx.lt.2
    have hba : Below wd.heap.size wd (wd.alloc (.cells #[.int .i64 0, .int .i64 1, .int .i64 2] 2)) := by go_grown
    replace sx := sx.below hba
    replace ux := ux.trans (Out.of_below hba)
    clear hba
    go_wp2
    refine ThenGo.to ⟨⟨⟨_, ux.mono hsub⟩, rfl⟩, ?_⟩
    generalize hGp : wd.heap.size = gp at *
    clear hGp
    generalize wd.alloc (.cells #[.int .i64 0, .int .i64 1, .int .i64 2] 2) = Y at *
    refine call_at 2 (some 17) 64 #[.pointer (some ⟨b, 0, none⟩), .int .i64 5] 5 (by kernel_rfl) (by kernel_rfl) (by kernel_rfl) (by kernel_rfl) (by kernel_rfl) ?_
    refine (next_any B b (0 + 2500 + 1 + 2600) 5 _ sx (by omega) (by omega)).mono ?_
    rintro e x7 ⟨nd, rfl, hnd, sn', gn⟩
    have hnd0 := hnd.1
    have hnd5 := hnd.2.1 (by omega)
    replace sx := sn'
    have un : Out [b] _ _ := Out.of_grown gn
    replace ux := ux.trans un
    replace hpk := hpk.kept gn (Or.inr (by simp [Value.ownBlock]; omega))
    clear un gn sn' hnd
    refine ⟨_, rfl, ⟨⟨_, ux.mono hsub⟩, rfl⟩, ?_⟩
    simp only [Act.put, List.getElem_toArray, List.getElem_cons_succ, List.getElem_cons_zero, List.setIfInBounds_toArray, List.set_cons_zero, List.set_cons_succ]
    refine seg_range [(3, 1)] 4 (by kernel_rfl) (by kernel_rfl) (by kernel_rfl) (by kernel_rfl) (by kernel_rfl) ⟨⟨_, ux.mono hsub⟩, rfl⟩ ?_
    simp only [pickR, List.toList_toArray, List.flatMap_cons, List.flatMap_nil, List.drop_succ_cons, List.drop_zero, List.take_succ_cons, List.take_zero, List.cons_append, List.nil_append, List.append_nil]
    repeat go_big_quiet_step (fail)
    refine wpQuiet_nil ?_
    refine call_at 6 (some 21) 65 #[.pointer (some ⟨b, 0, none⟩), .slice (some ⟨gp, 0, none⟩) 3 3] 3 (by kernel_rfl) (by kernel_rfl) (by kernel_rfl) (by kernel_rfl) (by kernel_rfl) ?_
    refine (pick_any B b (0 + 2500 + 1 + 2600 + 1) gp _ [0, 1, 2] _ sx (by omega) hpk (by simp) (by simp) (by simp [Value.ownBlock]; omega)).mono ?_
    rintro e x9 ⟨vd, rfl, _, sn', gn⟩
    have un : Out [b] _ _ := Out.of_grown gn
    replace ux := ux.trans un
    clear un gn sn' hpk sx
    refine ⟨_, rfl, ⟨⟨_, ux.mono hsub⟩, rfl⟩, ?_⟩
    simp only [Act.put, List.getElem_toArray, List.getElem_cons_succ, List.getElem_cons_zero, List.setIfInBounds_toArray, List.set_cons_zero, List.set_cons_succ]
    refine one_at 7 _ 2 (by kernel_rfl) rfl (by kernel_rfl) ?_
    have Rx := R0.outs ux (fun hk => by simp only [List.mem_singleton] at hk; omega)
    have Rr := Rx.row #[.bool dh, .slice d1 dbs.length d4, .slice d2 drs.length d5, .slice d3 dds.length d6]
    have hsr : (Tryz.prog.info? 28).map (·.size) = some (#[.bool dh, .slice d1 dbs.length d4, .slice d2 drs.length d5, .slice d3 dds.length d6] : Array Value).size := sz_inst
    have uz : Out [b, w.heap.size] X (x9.setRow w.heap.size #[.bool dh, .slice d1 dbs.length d4, .slice d2 drs.length d5, .slice d3 dds.length d6]) := (ux.mono hsub).trans ((out_row x9 w.heap.size #[.bool dh, .slice d1 dbs.length d4, .slice d2 drs.length d5, .slice d3 dds.length d6]).mono (fun k hk => by simp only [List.mem_singleton] at hk; simp [hk]))
    have oz := instK.own_out oq uz (fun k hk hk' => by simp only [List.mem_cons, List.not_mem_nil, or_false] at hk'; have := low k hk; omega)
    refine st_row (by kernel_rfl) 28 _ _ rfl _ #[.bool dh, .slice d1 dbs.length d4, .slice d2 drs.length d5, .slice d3 dds.length d6] rfl rfl 28 _ Rx hsr rfl (by simp [Value.oneCell']) ?_
    refine ThenGo.to ⟨⟨⟨_, uz⟩, rfl⟩, ?_⟩
    try simp only [Act.put, List.getElem_toArray, List.getElem_cons_succ, List.getElem_cons_zero, List.setIfInBounds_toArray, List.set_cons_zero, List.set_cons_succ]
    refine seg_range [(8, 2)] 0 (by kernel_rfl) (by kernel_rfl) (by kernel_rfl) (by kernel_rfl) (by kernel_rfl) ⟨⟨_, uz⟩, rfl⟩ ?_
    simp only [pickR, List.toList_toArray, List.flatMap_cons, List.flatMap_nil, List.drop_succ_cons, List.drop_zero, List.take_succ_cons, List.take_zero, List.cons_append, List.nil_append, List.append_nil]
    repeat go_big_quiet_step (fail)
    refine wpQuiet_nil ?_
    refine text_end (by kernel_rfl) ?_
    refine ⟨rfl, _, ⟨⟨nd, vd, gp, rfl⟩, oz, Rr, uz⟩, ?_⟩
    simp only [putAll, Act.put, List.getElem_toArray, List.getElem_cons_succ, List.getElem_cons_zero, List.setIfInBounds_toArray, List.set_cons_zero, List.set_cons_succ]
    try rfl
  rintro vs X6 ⟨⟨nd, vd, gp, rfl⟩, ow, Rr, uX⟩
  simp only [putAll, Act.put, List.setIfInBounds_toArray, List.set_cons_zero, List.set_cons_succ]
  have hBz : Below w.heap.size w X6 := Out.keep hb0 uX hb0.size (fun k hk => by simp only [List.mem_cons, List.not_mem_nil, or_false] at hk; omega)
  have HQ : Hid (InstQ.n (⟨dh, .slice d1 dbs.length d4, dbs, .slice d2 drs.length d5, drs, .slice d3 dds.length d6, dds⟩ : InstQ) ≤ 1000 ∧ instK.own X6 (⟨dh, .slice d1 dbs.length d4, dbs, .slice d2 drs.length d5, drs, .slice d3 dds.length d6, dds⟩ : InstQ) ∧ ∀ k ∈ instK.foot (⟨dh, .slice d1 dbs.length d4, dbs, .slice d2 drs.length d5, drs, .slice d3 dds.length d6, dds⟩ : InstQ), w.heap.size ≤ k) := ⟨hn, ow, fun k hk => by have := low k hk; omega⟩
  have q0 := Rr.cell 0 _ rfl
  have q1 := Rr.cell 1 _ rfl
  have q2 := Rr.cell 2 _ rfl
  have q3 := Rr.cell 3 _ rfl
  clear ow uX k0 k1 k2 k3 Bx R0 hS oq low hn
  go_wp2
  exact bodyPost_ret (v := .tuple #[.agg #[.bool dh, .slice d1 dbs.length d4, .slice d2 drs.length d5, .slice d3 dds.length d6], .int .i64 (nd - 1), .int .i64 vd]) (by simp [results, Tryz.results13, go_sem, q0, q1, q2, q3]) rfl ⟨(⟨dh, .slice d1 dbs.length d4, dbs, .slice d2 drs.length d5, drs, .slice d3 dds.length d6, dds⟩ : InstQ), nd - 1, vd, rfl, HQ.out.1, HQ.out.2.1, HQ.out.2.2, hBz⟩

end Go.Proofs.YtmgkjcobdmdjmaaGreatDoor
namespace Go.Proofs.YtmgkjcobdmdjmaaGreatDoor
open Go.RowKit
open Go.BigFrame
set_option linter.unusedVariables false
set_option maxRecDepth 100000
set_option linter.unusedSimpArgs false
theorem TxnRow.out {base : Nat} {w w' : World} {v : Value} {ps : List TxnP} {F : List Nat} (h : TxnRow base w v ps) (ho : Out F w w') (hF : ∀ k ∈ F, k < base) : TxnRow base w' v ps :=
 ⟨own_outs h.1 ho (fun k hk hk' => by have h1 := (own_zero h.1).2 k hk; have h2 := hF k hk'; omega), fun p hp => ⟨own_outs (h.2.1 p hp).1 ho (fun k hk hk' => by have h1 := (own_zero (h.2.1 p hp).1).2 k hk; have h2 := hF k hk'; omega), (h.2.1 p hp).2⟩, h.2.2⟩

theorem row_bt (ps : List TxnP) (h5 : ∀ p ∈ ps, p.d.acts.length ≤ 5) {base : Nat} {v : Value} : ∃ bt : List TxnQ, bt.length = ps.length ∧ (∀ p ∈ bt, TxnQ.n p ≤ 5) ∧ ∀ w, TxnRow base w v ps → txnK.At w v bt := by
 refine ⟨ps.map (fun p => ⟨p.d.id, p.d.session, p.d.seq, p.sl, p.d.acts⟩), by simp, fun p hp => ?_, fun w h => ?_⟩
 ·obtain ⟨q, hq, rfl⟩ := List.mem_map.1 hp
  exact h5 q hq
 ·obtain ⟨a, c, rfl⟩ := own_shape h.1
  refine ⟨a, c, by simp, ?_, fun p hp => ?_⟩
  ·have e : txnK.row (ps.map (fun p => (⟨p.d.id, p.d.session, p.d.seq, p.sl, p.d.acts⟩ : TxnQ))) = txnCells ps := by
    unfold Kind.row txnCells
    rw [List.flatMap_map]
    rfl
   rw [e]
   exact Lies.own h.1
  ·obtain ⟨q, hq, rfl⟩ := List.mem_map.1 hp
   exact (own_acts (h.2.1 q hq).1).1.at

set_option maxRecDepth 100000 in
set_option maxHeartbeats 8000000 in
theorem drawSetBatch_any (a : Option Addr) (cap : Nat) (zs : List Int) (w : World) (h : Row .u8 w a zs) (hu : ∀ i, 0 ≤ zs.getD i 0 ∧ zs.getD i 0 ≤ 255) (hl : zs.length ≤ 1048576) :
  Calls Tryz.prog 11 #[.slice a zs.length cap] w fun e w' => ∃ (q : InstQ) (vn : Value) (bt : List TxnQ), e = .returned (.tuple #[.agg #[.bool q.has, q.vb, q.vr, q.vd], vn]) ∧ q.n ≤ 1000 ∧ instK.own w' q ∧ txnK.At w' vn bt ∧ bt.length + nmL TxnQ.n bt ≤ 1000 ∧ Below w.heap.size w w' := by
 have hb0 : Below w.heap.size w (w.alloc (.cells #[.bool false, .slice none 0 0, .slice none 0 0, .slice none 0 0] 28)) := by go_grown
 have R0 := Blk.new w 28 #[.bool false, .slice none 0 0, .slice none 0 0, .slice none 0 0]
 have hW1 : w.heap.size < (w.alloc (.cells #[.bool false, .slice none 0 0, .slice none 0 0, .slice none 0 0] 28)).heap.size := by simp
 have hby : ∀ i, i < zs.length → ∃ b' off, a = some ⟨b', off, none⟩ ∧ b' < w.heap.size ∧ (w.alloc (.cells #[.bool false, .slice none 0 0, .slice none 0 0, .slice none 0 0] 28)).cell? ⟨b', off + i, none⟩ = some (.int .u8 (zs.getD i 0)) := fun i hi => by
  obtain ⟨b', off, e1, e2, e3⟩ := h i hi
  exact ⟨b', off, e1, e2, cellB e3 hb0⟩
 go_enter Tryz.func11, Tryz.ntmps11
 go_wp2_with fail
 generalize w.alloc (.cells #[.bool false, .slice none 0 0, .slice none 0 0, .slice none 0 0] 28) = W at *
 refine (source_any w.heap.size a cap zs W hb0.size hl hu hby).mono ?_
 rintro e x1 ⟨rfl, hS, hb1⟩
 replace R0 := R0.below hb1
 replace hb0 := hb0.trans (hb1.mono hb0.size)
 generalize hbb : W.heap.size = b at *
 clear hb1 hby
 obtain ⟨B, HB⟩ : ∃ B, Hid (w.heap.size = B) := ⟨_, rfl⟩
 rw [HB.out] at hS
 clear hbb
 go_wp2_with fail
 refine (l6Bent_any B b 0 x1 hS (by omega)).mono ?_
 rintro e x2 ⟨q, rfl, hn, oq, nq, gq, hSn, hgn⟩
 have hx1 := hS.lt
 have hU : Out [b] _ _ := Out.of_grown hgn
 replace R0 := R0.outs hU (fun hk => by simp only [List.mem_singleton] at hk; omega)
 replace hb0 := Out.keep hb0 hU hb0.size (fun k hk => by simp only [List.mem_singleton] at hk; omega)
 replace hS := hSn
 have hm := instK.own_lt oq
 clear hSn hgn hU nq
 obtain ⟨ch, cb, cbs, cr, crs, cd, cds⟩ := q
 obtain ⟨c1, c4, rfl⟩ : ∃ a c, cb = .slice a cbs.length c := oq.1.shape
 obtain ⟨c2, c5, rfl⟩ : ∃ a c, cr = .slice a crs.length c := oq.2.1.shape
 obtain ⟨c3, c6, rfl⟩ : ∃ a c, cd = .slice a cds.length c := oq.2.2.shape
 have hbA : Below x2.heap.size x2 (x2.alloc (.cells #[.bool ch, .slice c1 cbs.length c4, .slice c2 crs.length c5, .slice c3 cds.length c6] 28)) := by go_grown
 have Bx := Blk.new x2 28 #[.bool ch, .slice c1 cbs.length c4, .slice c2 crs.length c5, .slice c3 cds.length c6]
 have hgw : w.heap.size < x2.heap.size := R0.lt
 have hgb : b < x2.heap.size := hS.lt.2
 replace R0 := R0.below hbA
 replace hS := hS.below hbA
 replace hb0 := hb0.trans (hbA.mono hb0.size)
 replace oq := instK.own_out (F := []) oq (Out.of_below hbA) (fun _ _ => by simp)
 have low : ∀ k ∈ instK.foot (⟨ch, .slice c1 cbs.length c4, cbs, .slice c2 crs.length c5, crs, .slice c3 cds.length c6, cds⟩ : InstQ), b < k ∧ k ≠ x2.heap.size := fun k hk => ⟨by have := gq k hk; omega, by have := hm k hk; omega⟩
 clear hbA gq hm
 go_wp2_with fail
 generalize hgx : x2.heap.size = g at *
 generalize x2.alloc (.cells #[.bool ch, .slice c1 cbs.length c4, .slice c2 crs.length c5, .slice c3 cds.length c6] 28) = X1 at *
 clear hgx
 refine (l6DrawBatch_any B b (0 + 2600) X1 hS (by omega)).mono ?_
 rintro e x3 ⟨vn, ps, rfl, hpl, hba, oT, nT, gT, hSn, hgn⟩
 have hgX := Bx.lt
 have hU : Out [b] _ _ := Out.of_grown hgn
 replace R0 := R0.outs hU (fun hk => by simp only [List.mem_singleton] at hk; omega)
 replace Bx := Bx.outs hU (fun hk => by simp only [List.mem_singleton] at hk; omega)
 replace hb0 := Out.keep hb0 hU hb0.size (fun k hk => by simp only [List.mem_singleton] at hk; omega)
 replace hS := hSn
 replace oq := instK.own_out oq hU (fun k hk hk' => by simp only [List.mem_singleton] at hk'; have := low k hk; omega)
 clear hSn hgn hU nT
 obtain ⟨ta, tk, rfl⟩ := oT.shape
 go_wp2_with fail
 refine (chance_any B b (0 + 2600 + 50) 4 x3 hS (by omega) (by omega)).mono ?_
 rintro e X ⟨cb9, rfl, hSn, hgn⟩
 have hU : Out [b] _ _ := Out.of_grown hgn
 replace R0 := R0.outs hU (fun hk => by simp only [List.mem_singleton] at hk; omega)
 replace Bx := Bx.outs hU (fun hk => by simp only [List.mem_singleton] at hk; omega)
 replace hb0 := Out.keep hb0 hU hb0.size (fun k hk => by simp only [List.mem_singleton] at hk; omega)
 replace hS := hSn
 replace oq := instK.own_out oq hU (fun k hk hk' => by simp only [List.mem_singleton] at hk'; have := low k hk; omega)
 replace oT := oT.out hU (fun k hk hk' => by simp only [List.mem_singleton] at hk'; have := gT k hk; omega)
 clear hSn hgn hU
 cases cb9 with
 | false =>
  have Rr := R0.row #[.bool ch, .slice c1 cbs.length c4, .slice c2 crs.length c5, .slice c3 cds.length c6]
  have hsr : (Tryz.prog.info? 28).map (·.size) = some (#[.bool ch, .slice c1 cbs.length c4, .slice c2 crs.length c5, .slice c3 cds.length c6] : Array Value).size := sz_inst
  have hUr := out_row X w.heap.size #[.bool ch, .slice c1 cbs.length c4, .slice c2 crs.length c5, .slice c3 cds.length c6]
  have HQ : Hid (InstQ.n (⟨ch, .slice c1 cbs.length c4, cbs, .slice c2 crs.length c5, crs, .slice c3 cds.length c6, cds⟩ : InstQ) ≤ 1000 ∧ instK.own (X.setRow w.heap.size #[.bool ch, .slice c1 cbs.length c4, .slice c2 crs.length c5, .slice c3 cds.length c6]) (⟨ch, .slice c1 cbs.length c4, cbs, .slice c2 crs.length c5, crs, .slice c3 cds.length c6, cds⟩ : InstQ) ∧ Below w.heap.size w (X.setRow w.heap.size #[.bool ch, .slice c1 cbs.length c4, .slice c2 crs.length c5, .slice c3 cds.length c6])) := ⟨hn, instK.own_out oq hUr (fun k hk hk' => by simp only [List.mem_singleton] at hk'; have := low k hk; omega), Out.keep hb0 hUr hb0.size (fun k hk => by simp only [List.mem_singleton] at hk; omega)⟩
  have HT : Hid (txnK.At (X.setRow w.heap.size #[.bool ch, .slice c1 cbs.length c4, .slice c2 crs.length c5, .slice c3 cds.length c6]) (.slice ta ps.length tk) ps ∧ ps.length + nmL TxnQ.n ps ≤ 1000) := by
   refine ⟨(oT.out hUr (fun k hk hk' => by simp only [List.mem_singleton] at hk'; have := gT k hk; omega)).at, ?_⟩
   have := nmL_bound TxnQ.n 3 ps (fun p hp => hba p hp)
   omega
  have p0 := Bx.cell 0 _ rfl
  have p1 := Bx.cell 1 _ rfl
  have p2 := Bx.cell 2 _ rfl
  have p3 := Bx.cell 3 _ rfl
  clear oq hb0 hS hUr hn
  go_wp2_with (first | (refine st_row (by kernel_rfl) 28 _ _ rfl _ #[.bool ch, .slice c1 cbs.length c4, .slice c2 crs.length c5, .slice c3 cds.length c6] rfl rfl 28 _ R0 hsr rfl (by simp [Value.oneCell']) ?_))
  have q0 := Rr.cell 0 _ rfl
  have q1 := Rr.cell 1 _ rfl
  have q2 := Rr.cell 2 _ rfl
  have q3 := Rr.cell 3 _ rfl
  exact bodyPost_ret (v := .tuple #[.agg #[.bool ch, .slice c1 cbs.length c4, .slice c2 crs.length c5, .slice c3 cds.length c6], .slice ta ps.length tk]) (by simp [results, Tryz.results11, go_sem, q0, q1, q2, q3]) rfl ⟨(⟨ch, .slice c1 cbs.length c4, cbs, .slice c2 crs.length c5, crs, .slice c3 cds.length c6, cds⟩ : InstQ), _, _, rfl, HQ.out.1, HQ.out.2.1, HT.out.1, HT.out.2, HQ.out.2.2⟩

 | true =>
  go_wp2_with fail
  refine (l2BentMany_any B b (0 + 2600 + 50 + 1) X hS (by omega)).mono ?_
  rintro e x7 ⟨vm, pm, rfl, hpm, hp5, hR, hSn, hgn⟩
  have hXs := Bx.lt
  have hU : Out [b] _ _ := Out.of_grown hgn
  replace R0 := R0.outs hU (fun hk => by simp only [List.mem_singleton] at hk; omega)
  replace Bx := Bx.outs hU (fun hk => by simp only [List.mem_singleton] at hk; omega)
  replace hb0 := Out.keep hb0 hU hb0.size (fun k hk => by simp only [List.mem_singleton] at hk; omega)
  replace hS := hSn
  replace oq := instK.own_out oq hU (fun k hk hk' => by simp only [List.mem_singleton] at hk'; have := low k hk; omega)
  clear hSn hgn hU oT gT hba
  obtain ⟨bt, hbl, hb5, hbt⟩ := row_bt pm hp5 (base := X.heap.size) (v := vm)
  obtain ⟨vma, vmk, rfl⟩ : ∃ a c, vm = .slice a pm.length c := own_shape hR.1
  have Rr := R0.row #[.bool ch, .slice c1 cbs.length c4, .slice c2 crs.length c5, .slice c3 cds.length c6]
  have hsr : (Tryz.prog.info? 28).map (·.size) = some (#[.bool ch, .slice c1 cbs.length c4, .slice c2 crs.length c5, .slice c3 cds.length c6] : Array Value).size := sz_inst
  have hUr := out_row x7 w.heap.size #[.bool ch, .slice c1 cbs.length c4, .slice c2 crs.length c5, .slice c3 cds.length c6]
  have HQ : Hid (InstQ.n (⟨ch, .slice c1 cbs.length c4, cbs, .slice c2 crs.length c5, crs, .slice c3 cds.length c6, cds⟩ : InstQ) ≤ 1000 ∧ instK.own (x7.setRow w.heap.size #[.bool ch, .slice c1 cbs.length c4, .slice c2 crs.length c5, .slice c3 cds.length c6]) (⟨ch, .slice c1 cbs.length c4, cbs, .slice c2 crs.length c5, crs, .slice c3 cds.length c6, cds⟩ : InstQ) ∧ Below w.heap.size w (x7.setRow w.heap.size #[.bool ch, .slice c1 cbs.length c4, .slice c2 crs.length c5, .slice c3 cds.length c6])) := ⟨hn, instK.own_out oq hUr (fun k hk hk' => by simp only [List.mem_singleton] at hk'; have := low k hk; omega), Out.keep hb0 hUr hb0.size (fun k hk => by simp only [List.mem_singleton] at hk; omega)⟩
  have HT : Hid (txnK.At (x7.setRow w.heap.size #[.bool ch, .slice c1 cbs.length c4, .slice c2 crs.length c5, .slice c3 cds.length c6]) (.slice vma pm.length vmk) bt ∧ bt.length + nmL TxnQ.n bt ≤ 1000) := by
   refine ⟨hbt (x7.setRow w.heap.size #[.bool ch, .slice c1 cbs.length c4, .slice c2 crs.length c5, .slice c3 cds.length c6]) (TxnRow.out hR hUr (fun k hk => by simp only [List.mem_singleton] at hk; omega)), ?_⟩
   have := nmL_bound TxnQ.n 5 bt hb5
   omega
  have p0 := Bx.cell 0 _ rfl
  have p1 := Bx.cell 1 _ rfl
  have p2 := Bx.cell 2 _ rfl
  have p3 := Bx.cell 3 _ rfl
  clear oq hb0 hS hUr hn
  go_wp2_with (first | (refine st_row (by kernel_rfl) 28 _ _ rfl _ #[.bool ch, .slice c1 cbs.length c4, .slice c2 crs.length c5, .slice c3 cds.length c6] rfl rfl 28 _ R0 hsr rfl (by simp [Value.oneCell']) ?_))
  have q0 := Rr.cell 0 _ rfl
  have q1 := Rr.cell 1 _ rfl
  have q2 := Rr.cell 2 _ rfl
  have q3 := Rr.cell 3 _ rfl
  exact bodyPost_ret (v := .tuple #[.agg #[.bool ch, .slice c1 cbs.length c4, .slice c2 crs.length c5, .slice c3 cds.length c6], (.slice vma pm.length vmk)]) (by simp [results, Tryz.results11, go_sem, q0, q1, q2, q3]) rfl ⟨(⟨ch, .slice c1 cbs.length c4, cbs, .slice c2 crs.length c5, crs, .slice c3 cds.length c6, cds⟩ : InstQ), _, _, rfl, HQ.out.1, HQ.out.2.1, HT.out.1, HT.out.2, HQ.out.2.2⟩

end Go.Proofs.YtmgkjcobdmdjmaaGreatDoor
namespace Go.Proofs.YtmgkjcobdmdjmaaGreatDoor
open Go.RowKit
set_option linter.unusedVariables false
set_option maxRecDepth 100000
set_option maxHeartbeats 1000000 in
theorem lwBig_any (a : Option Addr) (n cap : Nat) (w : World) (hm : n ≤ 9223372036854775807) :
  Calls Tryz.prog 10 #[.slice a n cap] w fun e w' => e = .returned (.bool (decide (1048576 < (n : Int)))) ∧ w' = w := by
 go_enter Tryz.func10, Tryz.ntmps10
 go_wp2
 go_ret
 exact ⟨rfl, rfl⟩

end Go.Proofs.YtmgkjcobdmdjmaaGreatDoor

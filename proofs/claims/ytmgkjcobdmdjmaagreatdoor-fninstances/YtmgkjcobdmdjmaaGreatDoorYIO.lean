/- Texts joined, with what the law reaches alone. -/
import Derived.Test.YtmgkjcobdmdjmaaGreatDoorYIN
import Derived.Test.YtmgkjcobdmdjmaaGreatDoorYIC
import Derived.Maps.AppendAt
namespace Go.Proofs.YtmgkjcobdmdjmaaGreatDoor
open Go.RowKit Go.Maps
open Go.BigFrame
set_option linter.unusedVariables false
set_option maxRecDepth 100000
set_option linter.unusedSimpArgs false
theorem made0 : (madeCells #[Value.int .i64 0, .int .i64 0, .int .i64 0] (0 * 3)).toList = actCells (List.replicate 0 actNo) := by kernel_rfl

theorem made5 : (madeCells #[Value.int .i64 0, .int .i64 0, .int .i64 0] (5 * 3)).toList = actCells (List.replicate 5 actNo) := by kernel_rfl

theorem act_set1 (xs : List ActD) (h : 1 ≤ xs.length) (v : Int) : ∃ ys : List ActD, ys.length = xs.length ∧ (actCells xs).set 1 (.int .i64 v) = actCells ys := by
 cases xs with
 | nil => simp at h
 | cons x r => exact ⟨⟨x.kind, v, x.val⟩ :: r, by simp, by simp [actCells, ActD.cells]⟩

set_option maxRecDepth 100000 in
set_option maxHeartbeats 1500000 in
theorem l2Bent_any (B b T : Nat) (w : World) (hS : Src B w b T) (hT : T ≤ 900000) :
  Calls Tryz.prog 120 #[.pointer (some ⟨b, 0, none⟩)] w fun e w' => ∃ (i s q : Int) (a : Option Addr) (c : Nat) (xs : List ActD), e = .returned (.agg #[.int .i64 i, .int .i64 s, .int .i64 q, .slice a xs.length c]) ∧ xs.length ≤ 5 ∧
   w'.ownsRow w.heap.size 179 3 (.slice a xs.length c) xs.length (actCells xs) ∧ Src B w' b (T + 15) ∧ w.grownBy w' (some b) := by
 have hlt := hS.lt
 have B0 := Blk.new w 120 #[.int .i64 0, .int .i64 0, .int .i64 0, .slice none 0 0]
 have hg : w.grownBy (w.alloc (.cells #[.int .i64 0, .int .i64 0, .int .i64 0, .slice none 0 0] 120)) (some b) := World.grownBy_alloc w _ _
 replace hS : Src B (w.alloc (.cells #[.int .i64 0, .int .i64 0, .int .i64 0, .slice none 0 0] 120)) b T := hS.below (by go_grown)
 go_enter Tryz.func120, Tryz.ntmps120
 go_wp2_with fail
 have hs1 : (w.alloc (.cells #[.int .i64 0, .int .i64 0, .int .i64 0, .slice none 0 0] 120)).heap.size = w.heap.size + 1 := by simp
 generalize w.alloc (.cells #[.int .i64 0, .int .i64 0, .int .i64 0, .slice none 0 0] 120) = W1 at B0 hg hS hs1
 refine (l2Draw_any B b T W1 hS hT).mono ?_
 rintro e w2 ⟨i, s, q, a, c, xs, rfl, hx1, hx3, ho, hSn, hgn⟩
 replace B0 := B0.grown hgn (by simp; omega)
 replace hg := hg.trans hgn
 replace hS := hSn
 rw [hs1] at ho
 have hnb : some b ≠ Value.ownBlock (.slice a xs.length c) := own_not3 ho (Or.inl (by omega))
 have hr2 : w.heap.size < w2.heap.size := B0.lt
 have hbk : ∀ k, Value.ownBlock (.slice a xs.length c) = some k → k < w2.heap.size := fun k hk => (ho.lt k hk).2
 clear hgn hSn hs1
 have hbA : Below w2.heap.size w2 (w2.alloc (.cells #[.int .i64 i, .int .i64 s, .int .i64 q, .slice a xs.length c] 120)) := by go_grown
 have Bt := Blk.new w2 120 #[.int .i64 i, .int .i64 s, .int .i64 q, .slice a xs.length c]
 replace B0 := B0.below hbA
 replace hS := hS.below hbA
 replace ho := own_below ho hbA
 replace hg := grown_low hg (hbA.mono hg.size)
 have hs3 : w2.heap.size + 1 ≤ (w2.alloc (.cells #[.int .i64 i, .int .i64 s, .int .i64 q, .slice a xs.length c] 120)).heap.size := by simp
 go_wp2_with fail
 generalize w2.alloc (.cells #[.int .i64 i, .int .i64 s, .int .i64 q, .slice a xs.length c] 120) = W3 at B0 Bt hS hg ho hs3
 clear hbA
 refine (next_any B b (T + 13) 12 W3 hS (by omega) (by omega)).mono ?_
 rintro e w4 ⟨r, rfl, hr, hSn, hgn⟩
 have r1 := hr.1
 have r2 := hr.2.1 (by omega)
 replace B0 := B0.grown hgn (by simp; omega)
 replace Bt := Bt.grown hgn (by simp; omega)
 replace ho := ho.kept hgn (Or.inr (fun e => hnb e.symm))
 replace hg := hg.trans hgn
 replace hS := hSn
 have hsz_w4 := hgn.size
 clear hgn hSn
 clear hr
 replace hs3 : w2.heap.size + 1 ≤ w4.heap.size := Nat.le_trans hs3 hsz_w4
 clear hsz_w4
 have hbt : w.heap.size ≠ w2.heap.size := by omega
 have htb : w2.heap.size ≠ w.heap.size := by omega
 by_cases hr0 : r = 0
 ·subst hr0
  go_wp2_with fail
  have hltp := hS.lt
  have hbA : Below w4.heap.size w4 (w4.alloc (.cells #[.int .i64 0, .int .i64 200, .int .i64 201] 2)) := by go_grown
  replace B0 := B0.below hbA
  replace Bt := Bt.below hbA
  replace ho := ho.alloc (.cells #[.int .i64 0, .int .i64 200, .int .i64 201] 2)
  replace hg := hg.trans (World.grownBy_alloc w4 (.cells #[.int .i64 0, .int .i64 200, .int .i64 201] 2) (some b))
  refine (pick_any B b (T + 13 + 1) w4.heap.size _ [0, 200, 201] _ (hS.below (by go_grown)) (by omega) (World.ownsRow_lit w4 _ 3 (Nat.le_refl _) (by decide) rfl) (by simp) (by simp) (by simp [Value.ownBlock]; omega)).mono ?_
  rintro e w5 ⟨v, rfl, hmem, hSn, hgn⟩
  replace B0 := B0.grown hgn (by simp; omega)
  replace Bt := Bt.grown hgn (by simp; omega)
  replace ho := ho.kept hgn (Or.inr (fun e => hnb e.symm))
  replace hg := hg.trans hgn
  replace hS := hSn
  have hsz_w5 := hgn.size
  clear hgn hSn
  clear hmem
  have p0 := B0.cell 0 _ rfl
  have f0 := B0.frozen 0
  have q0 := Bt.cell 0 _ rfl
  have p1 := B0.cell 1 _ rfl
  have f1 := B0.frozen 1
  have q1 := Bt.cell 1 _ rfl
  have p2 := B0.cell 2 _ rfl
  have f2 := B0.frozen 2
  have q2 := Bt.cell 2 _ rfl
  have p3 := B0.cell 3 _ rfl
  have f3 := B0.frozen 3
  have q3 := Bt.cell 3 _ rfl
  have g0 := Bt.frozen 0
  clear B0 Bt
  go_wp2
  refine bodyPost_ret (v := .agg #[.int .i64 v, .int .i64 s, .int .i64 q, .slice a xs.length c]) (by simp [results, Tryz.results120, go_sem, p0, p1, p2, p3, htb, hbt]) rfl ?_
  have hbE : Below w.heap.size w5 (((((w5.setCell ⟨w2.heap.size, 0, none⟩ (.int .i64 v)).setCell ⟨w.heap.size, 0, none⟩ (.int .i64 v)).setCell ⟨w.heap.size, 1, none⟩ (.int .i64 s)).setCell ⟨w.heap.size, 2, none⟩ (.int .i64 q)).setCell ⟨w.heap.size, 3, none⟩ (.slice a xs.length c)) := ((((((Below.refl _ _).setCell (p := ⟨w2.heap.size, 0, none⟩) (show w.heap.size ≤ w2.heap.size by omega) _).setCell (p := ⟨w.heap.size, 0, none⟩) (Nat.le_refl _) _).setCell (p := ⟨w.heap.size, 1, none⟩) (Nat.le_refl _) _).setCell (p := ⟨w.heap.size, 2, none⟩) (Nat.le_refl _) _).setCell (p := ⟨w.heap.size, 3, none⟩) (Nat.le_refl _) _)
  refine ⟨ v,  s,  q, a, c, xs, rfl, by omega, ?_, (hS.low hbE hlt.2).mono (by omega), grown_low hg hbE⟩
  refine own_base (base := w.heap.size + 1) ?_ (by omega)
  repeat' (first | refine ownsRow_setCell_below ?_ (show _ < w.heap.size + 1 from Nat.lt_succ_self _) _ | refine own_set_other ?_ (by intro k hk; have := hbk k hk; omega))
  exact ho
 have hr0' : (r == 0) = false := by simpa using hr0
 by_cases hr1 : r = 1
 ·subst hr1
  have t3 : w4.cell? ⟨w2.heap.size, 3, none⟩ = some (.slice a xs.length c) := Bt.cell 3 _ rfl
  generalize hP : (fun u : World => u.cell? ⟨w2.heap.size, 3, none⟩ = some (.slice a xs.length c)) = PP
  have hP0 : PP w4 := by subst hP; exact t3
  have cc0 : ∀ u : KeepP PP, u.val.cell? ⟨w2.heap.size, 3, none⟩ = some (.slice a xs.length c) := fun u => by have := u.isP; subst hP; exact this
  have hnn : Nonempty (KeepP PP) := ⟨⟨w4, hP0⟩⟩
  go_wp2_with fail
  refine beginX (S := fun w' => ∃ u : KeepP PP, w' = u.val) (R := fun _ _ => False) 9 (by kernel_rfl) (fun _ _ _ _ h => h.elim) ?_
  have hPd : PP w4.drew := by subst hP; exact hP0
  refine segX [(0, 3)] 7 (by kernel_rfl) (by kernel_rfl) (by kernel_rfl) (by kernel_rfl) (by kernel_rfl) ⟨⟨w4.drew, hPd⟩, rfl⟩ ?_
  simp only [pickR, List.toList_toArray, List.flatMap_cons, List.flatMap_nil, List.drop_succ_cons, List.drop_zero, List.take_succ_cons, List.take_zero, List.cons_append, List.nil_append, List.append_nil]
  repeat go_big_quiet_step (fail)
  refine wpQuiet_nil ?_
  clear cc0 hnn hP0 t3 hPd
  replace Bt : Blk w4.drew w2.heap.size 120 #[.int .i64 i, .int .i64 s, .int .i64 q, .slice a xs.length c] := Bt
  replace B0 : Blk w4.drew w.heap.size 120 #[.int .i64 0, .int .i64 0, .int .i64 0, .slice none 0 0] := B0
  replace ho := ho.drew
  have hdr : Below w4.heap.size w4 w4.drew := (Below.refl _ _).drew
  replace hS := hS.below hdr
  replace hg := grown_low hg (hdr.mono hg.size)
  have keepP : ∀ u : World, Blk u w2.heap.size 120 #[.int .i64 i, .int .i64 s, .int .i64 q, .slice a xs.length c] → PP u := by
   intro u hu
   subst hP
   exact hu.cell 3 _ rfl
  clear hP hdr
  replace hs3 : w2.heap.size + 1 ≤ w4.drew.heap.size := hs3
  generalize w4.drew = wd at Bt B0 ho hS hg hs3
  have hltp := hS.lt
  have hbL : Below wd.heap.size wd (wd.alloc (.cells #[.int .i64 0, .int .i64 3, .int .i64 5] 2)) := by go_grown
  refine oneX 3 _ 6 (by kernel_rfl) rfl (by kernel_rfl) ?_
  go_wp2
  replace Bt := Bt.below hbL
  replace B0 := B0.below hbL
  replace ho := own_below ho hbL
  replace hg := grown_low hg (hbL.mono hg.size)
  refine ThenX.to ⟨Or.inr ⟨⟨_, keepP _ Bt⟩, rfl⟩, ?_⟩
  refine callX 4 (some 20) 65 #[.pointer (some ⟨b, 0, none⟩), .slice (some ⟨wd.heap.size, 0, none⟩) 3 3] 5 (by kernel_rfl) (by kernel_rfl) (by kernel_rfl) (by kernel_rfl) (by kernel_rfl) rfl ?_
  refine (pick_any B b (T + 13 + 1) wd.heap.size _ [0, 3, 5] _ (hS.below hbL) (by omega) (World.ownsRow_lit wd _ 3 (Nat.le_refl _) (by decide) rfl) (by simp) (by simp) (by simp [Value.ownBlock]; omega)).mono ?_
  rintro e w5 ⟨k, rfl, hmem, hSn, hgn⟩
  refine Or.inl ⟨_, rfl, ?_⟩
  replace Bt := Bt.grown hgn (by simp; omega)
  replace B0 := B0.grown hgn (by simp; omega)
  replace ho := ho.kept hgn (Or.inr (fun e => hnb e.symm))
  replace hg := hg.trans hgn
  replace hS := hSn
  have hs5 : w2.heap.size + 1 ≤ w5.heap.size := by have := hgn.size; have := hbL.size; omega
  clear hgn hSn hmem hs3 hbL
  refine ⟨⟨⟨w5, keepP _ Bt⟩, rfl⟩, ?_⟩
  simp only [Act.put, List.getElem_toArray, List.getElem_cons_succ, List.getElem_cons_zero, List.setIfInBounds_toArray, List.set_cons_zero, List.set_cons_succ]
  refine oneX 5 _ 4 (by kernel_rfl) rfl (by kernel_rfl) ?_
  go_wp2
  refine ThenX.to ⟨Or.inr ⟨⟨_, keepP _ Bt⟩, rfl⟩, ?_⟩
  have hbA : Below w5.heap.size w5 (w5.alloc (.cells #[.int .i64 k, .int .i64 1, .int .i64 1] 179)) := by go_grown
  refine oneX 6 _ 3 (by kernel_rfl) rfl (by kernel_rfl) ?_
  go_wp2
  replace Bt := Bt.below hbA
  replace B0 := B0.below hbA
  replace hS := hS.below hbA
  replace hg := grown_low hg (hbA.mono hg.size)
  refine ThenX.to ⟨Or.inr ⟨⟨_, keepP _ Bt⟩, rfl⟩, ?_⟩
  have hsA : w5.heap.size + 1 ≤ (w5.alloc (.cells #[.int .i64 k, .int .i64 1, .int .i64 1] 179)).heap.size := by simp
  have hsrc : ∀ j u, [Value.int .i64 k, .int .i64 1, .int .i64 1][j]? = some u → (w5.alloc (.cells #[.int .i64 k, .int .i64 1, .int .i64 1] 179)).cell? ((⟨w5.heap.size, 0, none⟩ : Addr).add j) = some u := by
   intro j u hj; match j, hj with | 0, hj => simp at hj; subst hj; simp [Addr.add] | 1, hj => simp at hj; subst hj; simp [Addr.add] | 2, hj => simp at hj; subst hj; simp [Addr.add]
  replace ho := own_below ho hbA
  generalize w5.alloc (.cells #[.int .i64 k, .int .i64 1, .int .i64 1] 179) = wb at hbA Bt B0 hS hg hsA hsrc ho
  obtain ⟨i0, hi, hz0, hz1, hz2⟩ := info_parts infoAct
  refine oneX 7 _ 2 (by kernel_rfl) rfl (by kernel_rfl) ?_
  refine wpList_append_own_at _ rfl _ _ 118 rfl (w.heap.size + 1) 179 i0 (.agg #[.int .i64 0, .int .i64 0, .int .i64 0]) 3 24 Tryz.underlying118 hi hz0 hz1 hz2 rfl (by decide) _ xs.length (actCells xs) rfl ho ⟨w5.heap.size, 0, none⟩ 1 1 [.int .i64 k, .int .i64 1, .int .i64 1] rfl rfl hsrc ?c2 ?c3 ?c4 ?c5 ?_
  case c2 => intro u hu; simp at hu; rcases hu with rfl | rfl | rfl <;> rfl
  case c3 => unfold maxLen; omega
  case c4 => omega
  case c5 => omega
  intro v' wc hown hgrow _ hat
  obtain ⟨a2, c2, rfl⟩ := own_shape hown
  have hgo : ∀ j, (Value.slice a xs.length c).ownBlock = some j → w.heap.size + 1 ≤ j := fun j hj => (ho.lt j hj).1
  have hBc : Below (w.heap.size + 1) wb wc := (Below.refl _ _).grown hgrow (by omega) hgo
  replace Bt : Blk wc w2.heap.size 120 #[.int .i64 i, .int .i64 s, .int .i64 q, .slice a xs.length c] := Bt.grown hgrow (fun e => by have := hbk _ e.symm; omega)
  replace B0 : Blk wc w.heap.size 120 #[.int .i64 0, .int .i64 0, .int .i64 0, .slice none 0 0] := (hBc.block _ (by omega)).trans B0
  replace hS := hS.low hBc (by omega)
  replace hg := grown_low hg (hBc.mono (by omega))
  have hbk2 : ∀ j, (Value.slice a2 (xs.length + 1) c2).ownBlock = some j → j ≠ w2.heap.size := by
   intro j hj
   rcases hat with e | e
   ·rw [e] at hj; have := hbk j hj; omega
   ·rw [e] at hj; simp at hj; omega
  clear hgrow hgo hBc ho hbA hsrc hat hbk hnb
  go_wp2
  refine ThenX.to ⟨Or.inr ⟨⟨_, keepP _ Bt⟩, rfl⟩, ?_⟩
  simp only [Act.put, List.getElem_toArray, List.getElem_cons_succ, List.getElem_cons_zero, List.setIfInBounds_toArray, List.set_cons_zero, List.set_cons_succ]
  refine oneX 8 _ 1 (by kernel_rfl) rfl (by kernel_rfl) ?_
  go_wp2
  refine ThenX.to ⟨Or.inr ⟨⟨_, keepP _ Bt⟩, rfl⟩, ?_⟩
  refine oneX 9 _ 0 (by kernel_rfl) rfl (by kernel_rfl) ?_
  have t3 := Bt.cell 3 _ rfl
  have t4 := Bt.frozen 3
  go_wp2
  clear t3 t4 keepP
  refine ThenX.to ⟨Or.inl (by kernel_rfl), ?_⟩
  refine endX (by kernel_rfl) ?_
  have hbS : Below w2.heap.size wc (wc.setCell ⟨w2.heap.size, 3, none⟩ (.slice a2 (xs.length + 1) c2)) := (Below.refl _ _).setCell (p := ⟨w2.heap.size, 3, none⟩) (Nat.le_refl _) _
  replace Bt : Blk (wc.setCell ⟨w2.heap.size, 3, none⟩ (.slice a2 (xs.length + 1) c2)) w2.heap.size 120 #[.int .i64 i, .int .i64 s, .int .i64 q, .slice a2 (xs.length + 1) c2] := by
   have := Go.Joins.block_setCell (i := 3) (v := .slice a2 (xs.length + 1) c2) Bt
   unfold Blk
   simpa using this
  replace B0 := (hbS.block _ (by omega)).trans B0
  replace B0 : Blk (wc.setCell ⟨w2.heap.size, 3, none⟩ (.slice a2 (xs.length + 1) c2)) w.heap.size 120 #[.int .i64 0, .int .i64 0, .int .i64 0, .slice none 0 0] := B0
  have ho := own_set_other (g := w2.heap.size) (j := 3) (u := .slice a2 (xs.length + 1) c2) hown hbk2
  replace hS := hS.low hbS (by omega)
  replace hg := grown_low hg (hbS.mono (by omega))
  clear hown hi hz0 hz1 hz2 hbS
  generalize wc.setCell ⟨w2.heap.size, 3, none⟩ (.slice a2 (xs.length + 1) c2) = w9 at Bt B0 ho hS hg
  replace ho : w9.ownsRow (w.heap.size + 1) 179 3 (.slice a2 (xs.length + 1) c2) (xs.length + 1) (actCells (xs ++ [⟨k, 1, 1⟩])) := by rw [actCells_snoc']; exact ho
  have p0 := B0.cell 0 _ rfl
  have f0 := B0.frozen 0
  have q0 := Bt.cell 0 _ rfl
  have p1 := B0.cell 1 _ rfl
  have f1 := B0.frozen 1
  have q1 := Bt.cell 1 _ rfl
  have p2 := B0.cell 2 _ rfl
  have f2 := B0.frozen 2
  have q2 := Bt.cell 2 _ rfl
  have p3 := B0.cell 3 _ rfl
  have f3 := B0.frozen 3
  have q3 := Bt.cell 3 _ rfl
  clear B0 Bt
  go_wp2
  refine bodyPost_ret (v := .agg #[.int .i64 i, .int .i64 s, .int .i64 q, .slice a2 (xs.length + 1) c2]) (by simp [results, Tryz.results120, go_sem, p0, p1, p2, p3, htb, hbt]) rfl ?_
  have hbE : Below w.heap.size w9 ((((w9.setCell ⟨w.heap.size, 0, none⟩ (.int .i64 i)).setCell ⟨w.heap.size, 1, none⟩ (.int .i64 s)).setCell ⟨w.heap.size, 2, none⟩ (.int .i64 q)).setCell ⟨w.heap.size, 3, none⟩ (.slice a2 (xs.length + 1) c2)) := (((((Below.refl _ _).setCell (p := ⟨w.heap.size, 0, none⟩) (Nat.le_refl _) _).setCell (p := ⟨w.heap.size, 1, none⟩) (Nat.le_refl _) _).setCell (p := ⟨w.heap.size, 2, none⟩) (Nat.le_refl _) _).setCell (p := ⟨w.heap.size, 3, none⟩) (Nat.le_refl _) _)
  refine ⟨ i,  s,  q, a2, c2, xs ++ [⟨k, 1, 1⟩], by simp, by simp; omega, ?_, (hS.low hbE hlt.2).mono (by omega), grown_low hg hbE⟩
  rw [List.length_append, List.length_singleton]
  refine own_base (base := w.heap.size + 1) ?_ (by omega)
  repeat' (first | refine ownsRow_setCell_below ?_ (show _ < w.heap.size + 1 from Nat.lt_succ_self _) _ | refine own_set_other ?_ (by intro k hk; have := hbk k hk; omega))
  exact ho
 have hr1' : (r == 1) = false := by simpa using hr1
 by_cases hr2' : r = 2
 ·subst hr2'
  obtain ⟨ga, rfl⟩ : ∃ ga, a = some ⟨ga, 0, none⟩ := by
   rcases ho.2 with ⟨he, h0⟩ | ⟨g, cap, cur, he, _⟩
   ·omega
   ·simp only [Value.slice.injEq] at he
    exact ⟨g, he.1⟩
  have hga := hbk ga rfl
  have hga2 : w.heap.size + 1 ≤ ga := (ho.lt ga rfl).1
  have t3 : w4.cell? ⟨w2.heap.size, 3, none⟩ = some (.slice (some ⟨ga, 0, none⟩) xs.length c) := Bt.cell 3 _ rfl
  generalize hP : (fun u : World => u.cell? ⟨w2.heap.size, 3, none⟩ = some (.slice (some ⟨ga, 0, none⟩) xs.length c)) = PP
  have hP0 : PP w4 := by subst hP; exact t3
  have cc0 : ∀ u : KeepP PP, u.val.cell? ⟨w2.heap.size, 3, none⟩ = some (.slice (some ⟨ga, 0, none⟩) xs.length c) := fun u => by have := u.isP; subst hP; exact this
  have hnn : Nonempty (KeepP PP) := ⟨⟨w4, hP0⟩⟩
  go_wp2_with fail
  refine beginX (S := fun w' => ∃ u : KeepP PP, w' = u.val) (R := fun _ _ => False) 7 (by kernel_rfl) (fun _ _ _ _ h => h.elim) ?_
  have hPd : PP w4.drew := by subst hP; exact hP0
  refine segX [(0, 3)] 5 (by kernel_rfl) (by kernel_rfl) (by kernel_rfl) (by kernel_rfl) (by kernel_rfl) ⟨⟨w4.drew, hPd⟩, rfl⟩ ?_
  simp only [pickR, List.toList_toArray, List.flatMap_cons, List.flatMap_nil, List.drop_succ_cons, List.drop_zero, List.take_succ_cons, List.take_zero, List.cons_append, List.nil_append, List.append_nil]
  repeat go_big_quiet_step (fail)
  refine wpQuiet_nil ?_
  clear cc0 hnn hP0 t3 hPd
  replace Bt : Blk w4.drew w2.heap.size 120 #[.int .i64 i, .int .i64 s, .int .i64 q, .slice (some ⟨ga, 0, none⟩) xs.length c] := Bt
  replace B0 : Blk w4.drew w.heap.size 120 #[.int .i64 0, .int .i64 0, .int .i64 0, .slice none 0 0] := B0
  replace ho := ho.drew
  have hdr : Below w4.heap.size w4 w4.drew := (Below.refl _ _).drew
  replace hS := hS.below hdr
  replace hg := grown_low hg (hdr.mono hg.size)
  have keepP : ∀ u : World, Blk u w2.heap.size 120 #[.int .i64 i, .int .i64 s, .int .i64 q, .slice (some ⟨ga, 0, none⟩) xs.length c] → PP u := by
   intro u hu
   subst hP
   exact hu.cell 3 _ rfl
  clear hP hdr
  replace hs3 : w2.heap.size + 1 ≤ w4.drew.heap.size := hs3
  generalize w4.drew = wd at Bt B0 ho hS hg hs3
  have hltp := hS.lt
  have hbL : Below wd.heap.size wd (wd.alloc (.cells #[.int .i64 0, .int .i64 20, .int .i64 21] 2)) := by go_grown
  refine oneX 3 _ 4 (by kernel_rfl) rfl (by kernel_rfl) ?_
  go_wp2
  replace Bt := Bt.below hbL
  replace B0 := B0.below hbL
  replace ho := own_below ho hbL
  replace hg := grown_low hg (hbL.mono hg.size)
  refine ThenX.to ⟨Or.inr ⟨⟨_, keepP _ Bt⟩, rfl⟩, ?_⟩
  refine callX 4 (some 31) 65 #[.pointer (some ⟨b, 0, none⟩), .slice (some ⟨wd.heap.size, 0, none⟩) 3 3] 3 (by kernel_rfl) (by kernel_rfl) (by kernel_rfl) (by kernel_rfl) (by kernel_rfl) rfl ?_
  refine (pick_any B b (T + 13 + 1) wd.heap.size _ [0, 20, 21] _ (hS.below hbL) (by omega) (World.ownsRow_lit wd _ 3 (Nat.le_refl _) (by decide) rfl) (by simp) (by simp) (by simp [Value.ownBlock]; omega)).mono ?_
  rintro e w5 ⟨k, rfl, hmem, hSn, hgn⟩
  refine Or.inl ⟨_, rfl, ?_⟩
  replace Bt := Bt.grown hgn (by simp; omega)
  replace B0 := B0.grown hgn (by simp; omega)
  replace ho := ho.kept hgn (Or.inr (fun e => hnb e.symm))
  replace hg := hg.trans hgn
  replace hS := hSn
  have hs5 : w2.heap.size + 1 ≤ w5.heap.size := by have := hgn.size; have := hbL.size; omega
  clear hgn hSn hmem hs3 hbL
  refine ⟨⟨⟨w5, keepP _ Bt⟩, rfl⟩, ?_⟩
  simp only [Act.put, List.getElem_toArray, List.getElem_cons_succ, List.getElem_cons_zero, List.setIfInBounds_toArray, List.set_cons_zero, List.set_cons_succ]
  have hx1i : (0 : Int) < (xs.length : Int) := by omega
  refine oneX 5 _ 2 (by kernel_rfl) rfl (by kernel_rfl) ?_
  go_wp2
  refine ThenX.to ⟨Or.inr ⟨⟨_, keepP _ Bt⟩, rfl⟩, ?_⟩
  refine oneX 6 _ 1 (by kernel_rfl) rfl (by kernel_rfl) ?_
  go_wp2
  refine ThenX.to ⟨Or.inr ⟨⟨_, keepP _ Bt⟩, rfl⟩, ?_⟩
  refine oneX 7 _ 0 (by kernel_rfl) rfl (by kernel_rfl) ?_
  have t4 : w5.frozen? ⟨ga, 1, none⟩ = false := ho.frozenAt 1
  obtain ⟨u1, t3⟩ : ∃ u, w5.cell? ⟨ga, 1, none⟩ = some u := by
   rw [ho.cellAt 1 (by omega)]
   exact ⟨_, List.getElem?_eq_getElem (by rw [actCells_length]; omega)⟩
  go_wp2
  clear t3 t4 keepP
  refine ThenX.to ⟨Or.inl (by kernel_rfl), ?_⟩
  refine endX (by kernel_rfl) ?_
  have hst := (ho.stored 1 (.int .i64 k)).1
  obtain ⟨ys, hyl, hys⟩ := act_set1 xs hx1 k
  rw [hys] at hst
  have hbS : Below (w.heap.size + 1) w5 (w5.setCell ⟨ga, 1, none⟩ (.int .i64 k)) := (Below.refl _ _).setCell (p := ⟨ga, 1, none⟩) hga2 _
  replace Bt : Blk (w5.setCell ⟨ga, 1, none⟩ (.int .i64 k)) w2.heap.size 120 #[.int .i64 i, .int .i64 s, .int .i64 q, .slice (some ⟨ga, 0, none⟩) xs.length c] := by
   have := Below.heap_setCell w5 ⟨ga, 1, none⟩ (.int .i64 k) w2.heap.size (by show w2.heap.size ≠ ga; omega)
   exact this.trans Bt
  replace B0 : Blk (w5.setCell ⟨ga, 1, none⟩ (.int .i64 k)) w.heap.size 120 #[.int .i64 0, .int .i64 0, .int .i64 0, .slice none 0 0] := (hbS.block _ (by omega)).trans B0
  replace hS := hS.low hbS (by omega)
  replace hg := grown_low hg (hbS.mono (by omega))
  clear hbS ho hys
  generalize w5.setCell ⟨ga, 1, none⟩ (.int .i64 k) = w9 at Bt B0 hst hS hg
  rw [← hyl] at hst Bt hbk hx3
  have ho := hst
  clear hst hyl hx1 hx1i hnb
  have p0 := B0.cell 0 _ rfl
  have f0 := B0.frozen 0
  have q0 := Bt.cell 0 _ rfl
  have p1 := B0.cell 1 _ rfl
  have f1 := B0.frozen 1
  have q1 := Bt.cell 1 _ rfl
  have p2 := B0.cell 2 _ rfl
  have f2 := B0.frozen 2
  have q2 := Bt.cell 2 _ rfl
  have p3 := B0.cell 3 _ rfl
  have f3 := B0.frozen 3
  have q3 := Bt.cell 3 _ rfl
  clear B0 Bt
  go_wp2
  refine bodyPost_ret (v := .agg #[.int .i64 i, .int .i64 s, .int .i64 q, .slice (some ⟨ga, 0, none⟩) ys.length c]) (by simp [results, Tryz.results120, go_sem, p0, p1, p2, p3, htb, hbt]) rfl ?_
  have hbE : Below w.heap.size w9 ((((w9.setCell ⟨w.heap.size, 0, none⟩ (.int .i64 i)).setCell ⟨w.heap.size, 1, none⟩ (.int .i64 s)).setCell ⟨w.heap.size, 2, none⟩ (.int .i64 q)).setCell ⟨w.heap.size, 3, none⟩ (.slice (some ⟨ga, 0, none⟩) ys.length c)) := (((((Below.refl _ _).setCell (p := ⟨w.heap.size, 0, none⟩) (Nat.le_refl _) _).setCell (p := ⟨w.heap.size, 1, none⟩) (Nat.le_refl _) _).setCell (p := ⟨w.heap.size, 2, none⟩) (Nat.le_refl _) _).setCell (p := ⟨w.heap.size, 3, none⟩) (Nat.le_refl _) _)
  refine ⟨ i,  s,  q, (some ⟨ga, 0, none⟩), c, ys, rfl, by omega, ?_, (hS.low hbE hlt.2).mono (by omega), grown_low hg hbE⟩
  refine own_base (base := w.heap.size + 1) ?_ (by omega)
  repeat' (first | refine ownsRow_setCell_below ?_ (show _ < w.heap.size + 1 from Nat.lt_succ_self _) _ | refine own_set_other ?_ (by intro k hk; have := hbk k hk; omega))
  exact ho
 have hr2'' : (r == 2) = false := by simpa using hr2'
 by_cases hr3 : r = 3
 ·subst hr3
  clear hnb hbk
  go_wp2_with fail
  have hltp := hS.lt
  have hbA : Below w4.heap.size w4 (w4.alloc (.cells #[.int .i64 0, .int .i64 5] 2)) := by go_grown
  replace B0 := B0.below hbA
  replace Bt := Bt.below hbA
  replace hg := hg.trans (World.grownBy_alloc w4 (.cells #[.int .i64 0, .int .i64 5] 2) (some b))
  refine (pick_any B b (T + 13 + 1) w4.heap.size _ [0, 5] _ (hS.below (by go_grown)) (by omega) (World.ownsRow_lit w4 _ 2 (Nat.le_refl _) (by decide) rfl) (by simp) (by simp) (by simp [Value.ownBlock]; omega)).mono ?_
  rintro e w5 ⟨v, rfl, hmem, hSn, hgn⟩
  replace B0 := B0.grown hgn (by simp; omega)
  replace Bt := Bt.grown hgn (by simp; omega)
  replace hg := hg.trans hgn
  replace hS := hSn
  have hsz_w5 := hgn.size
  clear hgn hSn
  replace hs3 : w2.heap.size + 1 ≤ w5.heap.size := by simp at hsz_w5; omega
  clear hsz_w5 hbA
  obtain ⟨i0, hi, hz0, hz1, hz2⟩ := info_parts infoAct
  obtain ⟨m, rfl, hm5, hmade⟩ : ∃ m : Nat, v = m ∧ m ≤ 5 ∧ (madeCells #[Value.int .i64 0, .int .i64 0, .int .i64 0] (m * 3)).toList = actCells (List.replicate m actNo) := by
   simp at hmem
   rcases hmem with rfl | rfl
   ·exact ⟨0, rfl, by omega, made0⟩
   ·exact ⟨5, rfl, by omega, made5⟩
  have hby : i0.bytes * m ≤ 281474976710656 := by rw [hz2]; omega
  have hmx : m ≤ maxLen := by unfold maxLen; omega
  clear hmem ho
  have q3' := Bt.cell 3 _ rfl
  go_wp2_with (at_make; refine wpList_make_full _ rfl _ _ 118 rfl w5.heap.size 179 i0 (.agg #[.int .i64 0, .int .i64 0, .int .i64 0]) 3 Tryz.underlying118 hi hz0 hz1 _ _ _ _ m rfl rfl rfl rfl hby hmx (Nat.le_refl _) ?_)
  intro w6 ho hgrow
  have hb6 : Below w5.heap.size w5 w6 := (Below.refl _ _).grown hgrow (Nat.le_refl _) (by simp)
  clear q3' hmade
  replace B0 := B0.below hb6
  replace Bt := Bt.below hb6
  replace hS := hS.below hb6
  replace hg := grown_low hg (hb6.mono hg.size)
  replace ho := own_base ho (show w.heap.size + 1 ≤ w5.heap.size by omega)
  have hbk : ∀ j, (Value.slice (some ⟨w5.heap.size, 0, none⟩) m m).ownBlock = some j → w2.heap.size < j := by
   intro j hj
   simp [Value.ownBlock] at hj
   omega
  clear hgrow hb6
  have p0 := B0.cell 0 _ rfl
  have f0 := B0.frozen 0
  have q0 := Bt.cell 0 _ rfl
  have p1 := B0.cell 1 _ rfl
  have f1 := B0.frozen 1
  have q1 := Bt.cell 1 _ rfl
  have p2 := B0.cell 2 _ rfl
  have f2 := B0.frozen 2
  have q2 := Bt.cell 2 _ rfl
  have p3 := B0.cell 3 _ rfl
  have f3 := B0.frozen 3
  have q3 := Bt.cell 3 _ rfl
  have g3 := Bt.frozen 3
  clear B0 Bt
  go_wp2
  refine bodyPost_ret (v := .agg #[.int .i64 i, .int .i64 s, .int .i64 q, .slice (some ⟨w5.heap.size, 0, none⟩) m m]) (by simp [results, Tryz.results120, go_sem, p0, p1, p2, p3, htb, hbt]) rfl ?_
  have hbE : Below w.heap.size w6 (((((w6.setCell ⟨w2.heap.size, 3, none⟩ (.slice (some ⟨w5.heap.size, 0, none⟩) m m)).setCell ⟨w.heap.size, 0, none⟩ (.int .i64 i)).setCell ⟨w.heap.size, 1, none⟩ (.int .i64 s)).setCell ⟨w.heap.size, 2, none⟩ (.int .i64 q)).setCell ⟨w.heap.size, 3, none⟩ (.slice (some ⟨w5.heap.size, 0, none⟩) m m)) := ((((((Below.refl _ _).setCell (p := ⟨w2.heap.size, 3, none⟩) (show w.heap.size ≤ w2.heap.size by omega) _).setCell (p := ⟨w.heap.size, 0, none⟩) (Nat.le_refl _) _).setCell (p := ⟨w.heap.size, 1, none⟩) (Nat.le_refl _) _).setCell (p := ⟨w.heap.size, 2, none⟩) (Nat.le_refl _) _).setCell (p := ⟨w.heap.size, 3, none⟩) (Nat.le_refl _) _)
  refine ⟨ i,  s,  q, (some ⟨w5.heap.size, 0, none⟩), m, List.replicate m actNo, by simp, by simp; omega, ?_, (hS.low hbE hlt.2).mono (by omega), grown_low hg hbE⟩
  rw [List.length_replicate]
  refine own_base (base := w.heap.size + 1) ?_ (by omega)
  repeat' (first | refine ownsRow_setCell_below ?_ (show _ < w.heap.size + 1 from Nat.lt_succ_self _) _ | refine own_set_other ?_ (by intro k hk; have := hbk k hk; omega))
  exact ho
 have hr3' : (r == 3) = false := by simpa using hr3
 clear hr0 hr1 hr2' hr3
 have p0 := B0.cell 0 _ rfl
 have f0 := B0.frozen 0
 have q0 := Bt.cell 0 _ rfl
 have p1 := B0.cell 1 _ rfl
 have f1 := B0.frozen 1
 have q1 := Bt.cell 1 _ rfl
 have p2 := B0.cell 2 _ rfl
 have f2 := B0.frozen 2
 have q2 := Bt.cell 2 _ rfl
 have p3 := B0.cell 3 _ rfl
 have f3 := B0.frozen 3
 have q3 := Bt.cell 3 _ rfl
 clear B0 Bt
 go_wp2
 refine bodyPost_ret (v := .agg #[.int .i64 i, .int .i64 s, .int .i64 q, .slice a xs.length c]) (by simp [results, Tryz.results120, go_sem, p0, p1, p2, p3, htb, hbt]) rfl ?_
 have hbE : Below w.heap.size w4 ((((w4.setCell ⟨w.heap.size, 0, none⟩ (.int .i64 i)).setCell ⟨w.heap.size, 1, none⟩ (.int .i64 s)).setCell ⟨w.heap.size, 2, none⟩ (.int .i64 q)).setCell ⟨w.heap.size, 3, none⟩ (.slice a xs.length c)) := (((((Below.refl _ _).setCell (p := ⟨w.heap.size, 0, none⟩) (Nat.le_refl _) _).setCell (p := ⟨w.heap.size, 1, none⟩) (Nat.le_refl _) _).setCell (p := ⟨w.heap.size, 2, none⟩) (Nat.le_refl _) _).setCell (p := ⟨w.heap.size, 3, none⟩) (Nat.le_refl _) _)
 refine ⟨ i,  s,  q, a, c, xs, rfl, by omega, ?_, (hS.low hbE hlt.2).mono (by omega), grown_low hg hbE⟩
 refine own_base (base := w.heap.size + 1) ?_ (by omega)
 repeat' (first | refine ownsRow_setCell_below ?_ (show _ < w.heap.size + 1 from Nat.lt_succ_self _) _ | refine own_set_other ?_ (by intro k hk; have := hbk k hk; omega))
 exact ho

end Go.Proofs.YtmgkjcobdmdjmaaGreatDoor
namespace Go.Proofs.YtmgkjcobdmdjmaaGreatDoor
open Go.RowKit Go.Maps
set_option linter.unusedVariables false
set_option maxRecDepth 100000
set_option linter.unusedSimpArgs false
/-- A list of transactions that is owned whole, its acts elsewhere than the list. -/
def TxnRow (base : Nat) (w : World) (v : Value) (ps : List TxnP) : Prop :=
 w.ownsRow base 120 4 v ps.length (txnCells ps) ∧ (∀ p ∈ ps, w.ownsRow base 179 3 p.sl p.d.acts.length (actCells p.d.acts) ∧ (p.sl.ownBlock = none ∨ p.sl.ownBlock ≠ v.ownBlock)) ∧ v ≠ .slice none 0 0

theorem TxnRow.at {base : Nat} {w : World} {v : Value} {ps : List TxnP} (h : TxnRow base w v ps) : TxnsAt w v (ps.map TxnP.d) := by
 obtain ⟨a, c, rfl⟩ := own_shape h.1
 refine ⟨a, c, ps, by simp, rfl, Lies.own h.1, fun p hp => ?_⟩
 exact Lies.own (h.2.1 p hp).1

theorem TxnRow.src {base b : Nat} {w w' : World} {v : Value} {ps : List TxnP} (h : TxnRow base w v ps) (hb : b < base) (hg : w.grownBy w' (some b)) : TxnRow base w' v ps :=
 ⟨h.1.kept hg (Or.inr (fun e => own_not3 h.1 (Or.inl hb) e.symm)), fun p hp => ⟨(h.2.1 p hp).1.kept hg (Or.inr (fun e => own_not3 (h.2.1 p hp).1 (Or.inl hb) e.symm)), (h.2.1 p hp).2⟩, h.2.2⟩

theorem TxnRow.below {base : Nat} {w w' : World} {v : Value} {ps : List TxnP} (h : TxnRow base w v ps) (hb : Below w.heap.size w w') : TxnRow base w' v ps :=
 ⟨own_below h.1 hb, fun p hp => ⟨own_below (h.2.1 p hp).1 hb, (h.2.1 p hp).2⟩, h.2.2⟩

theorem TxnRow.append {base : Nat} {w w' : World} {v v' : Value} {ps : List TxnP} (h : TxnRow base w v ps) (p : TxnP) (hp : w.ownsRow base 179 3 p.sl p.d.acts.length (actCells p.d.acts)) (hpn : p.sl.ownBlock = none ∨ p.sl.ownBlock ≠ v.ownBlock)
  (hown : w'.ownsRow base 120 4 v' (ps.length + 1) (txnCells ps ++ p.cells)) (hgrow : w.grownBy w' v.ownBlock) (hat : v'.ownBlock = v.ownBlock ∨ v'.ownBlock = some w.heap.size) (hnv : v' ≠ .slice none 0 0) : TxnRow base w' v' (ps ++ [p]) := by
 have key : ∀ r : TxnP, w.ownsRow base 179 3 r.sl r.d.acts.length (actCells r.d.acts) → (r.sl.ownBlock = none ∨ r.sl.ownBlock ≠ v.ownBlock) → w'.ownsRow base 179 3 r.sl r.d.acts.length (actCells r.d.acts) ∧ (r.sl.ownBlock = none ∨ r.sl.ownBlock ≠ v'.ownBlock) := by
  intro r hr hn
  refine ⟨hr.kept hgrow hn, ?_⟩
  rcases hn with e | e
  ·exact Or.inl e
  ·right
   rcases hat with e2 | e2
   ·rw [e2]; exact e
   ·rw [e2]
    intro e3
    have := (hr.lt _ e3).2
    omega
 refine ⟨by simpa [txnCells] using hown, fun r hr => ?_, hnv⟩
 simp only [List.mem_append, List.mem_singleton] at hr
 rcases hr with hr | rfl
 ·exact key r (h.2.1 r hr).1 (h.2.1 r hr).2
 ·exact key r hp hpn

theorem made61 : (madeCells #[Value.int .i64 0, .int .i64 0, .int .i64 0, .slice none 0 0] (61 * 4)).toList = txnCells (List.replicate 61 txnPNo) := by kernel_rfl

set_option maxRecDepth 100000 in
set_option maxHeartbeats 1000000 in
theorem l2Many_any (B b T : Nat) (w : World) (hS : Src B w b T) (hT : T ≤ 800000) :
  Calls Tryz.prog 124 #[.pointer (some ⟨b, 0, none⟩), .int .i64 6] w fun e w' => ∃ (v : Value) (ps : List TxnP), e = .returned v ∧ ps.length ≤ 5 ∧ (∀ p ∈ ps, p.d.acts.length ≤ 5) ∧ TxnRow w.heap.size w' v ps ∧ Src B w' b (T + 100) ∧ w.grownBy w' (some b) := by
 obtain ⟨i0, hi, hz0, hz1, hz2⟩ := info_parts infoTxn
 have hlt := hS.lt
 have ho0 : (w.alloc (.cells #[] 120)).ownsRow w.heap.size 120 4 (.slice (some ⟨w.heap.size, 0, none⟩) 0 0) 0 [] := World.ownsRow_lit w #[] 0 (Nat.le_refl _) (by decide) rfl
 have hg : w.grownBy (w.alloc (.cells #[] 120)) (some b) := World.grownBy_alloc w _ _
 replace hS : Src B (w.alloc (.cells #[] 120)) b T := hS.below (by go_grown)
 go_enter Tryz.func124, Tryz.ntmps124
 go_wp2_with fail
 generalize w.alloc (.cells #[] 120) = W1 at ho0 hg hS
 refine (next_any B b T 6 W1 hS (by omega) (by omega)).mono ?_
 rintro e w3 ⟨r, rfl, hr, hSn, hgn⟩
 obtain ⟨j0, rfl⟩ := Int.eq_ofNat_of_zero_le hr.1
 have hj0 : j0 ≤ 5 := by have := hr.2.1 (by omega); omega
 have hR0 : TxnRow w.heap.size W1 (.slice (some ⟨w.heap.size, 0, none⟩) 0 0) [] := ⟨ho0, by simp, by simp⟩
 replace hR0 := hR0.src hlt.2 hgn
 replace hg := hg.trans hgn
 replace hS := hSn
 clear hgn hSn hr ho0
 go_wp2
 go_loopw [5, 6] (fun v c wr => ∃ (j : Nat) (ps : List TxnP), c = .int .i64 j ∧ j + ps.length ≤ 5 ∧ Hid (∀ p ∈ ps, p.d.acts.length ≤ 5) ∧ TxnRow w.heap.size wr v ps ∧ Src B wr b (T + 1 + 13 * ps.length) ∧ w.grownBy wr (some b)) (fun _ c _ => (intOf c).toNat)
 case atStart => exact ⟨j0, [], rfl, by simp; omega, by intro p hp; simp at hp, hR0, hS, hg⟩
 case round =>
  clear hR0 hS hg
  obtain ⟨j, ps, rfl, hj, HP, hR, hS, hg⟩ := hrel
  have hsz := hg.size
  obtain ⟨a1, c1, rfl⟩ := own_shape hR.1
  by_cases hpos : 0 < j
  ·go_wp2_with fail
   refine (l2Draw_any B b (T + 1 + 13 * ps.length) wr hS (by omega)).mono ?_
   rintro e w4 ⟨i, s, q, a, c, xs, rfl, hx1, hx3, ho, hSn, hgn⟩
   have hpn : Value.ownBlock (.slice a xs.length c) = none ∨ Value.ownBlock (.slice a xs.length c) ≠ Value.ownBlock (.slice a1 ps.length c1) := own_apart3' hR.1 ho (Nat.le_refl _)
   replace hR := hR.src hlt.2 hgn
   replace hg := hg.trans hgn
   replace hS := hSn
   replace ho := own_base ho hsz
   clear hgn hSn
   have hbA : Below w4.heap.size w4 (w4.alloc (.cells #[.int .i64 i, .int .i64 s, .int .i64 q, .slice a xs.length c] 120)) := by go_grown
   have hsz4 := hg.size
   have ho2 := own_below hR.1 hbA
   go_wp2_with (at_builtin; refine wpList_append_own_at _ rfl _ _ 24 rfl w.heap.size 120 i0 (.agg #[.int .i64 0, .int .i64 0, .int .i64 0, .slice none 0 0]) 4 48 Tryz.underlying24 hi hz0 hz1 hz2 rfl (by decide) _ ps.length (txnCells ps) rfl ho2 ⟨w4.heap.size, 0, none⟩ 1 1 [.int .i64 i, .int .i64 s, .int .i64 q, .slice a xs.length c] rfl rfl ?c1 ?c2 ?c3 ?c4 ?c5 ?_)
   all_goals try (case c1 => intro j u hj; match j, hj with | 0, hj => simp at hj; subst hj; simp [Addr.add] | 1, hj => simp at hj; subst hj; simp [Addr.add] | 2, hj => simp at hj; subst hj; simp [Addr.add] | 3, hj => simp at hj; subst hj; simp [Addr.add])
   all_goals try (case c2 => intro u hu; simp at hu; rcases hu with rfl | rfl | rfl | rfl <;> rfl)
   all_goals try (case c3 => unfold maxLen; omega)
   all_goals try (case c4 => omega)
   all_goals try (case c5 => first | omega | (simp; omega))
   intro v' w5 hown hgrow hnil hat
   have hgo : ∀ j, (Value.slice a1 ps.length c1).ownBlock = some j → w.heap.size ≤ j := fun j hj => (ho2.lt j hj).1
   have hB5 : Below w.heap.size w4 w5 := ((Below.refl w.heap.size w4).alloc hsz4 (.cells #[.int .i64 i, .int .i64 s, .int .i64 q, .slice a xs.length c] 120)).grown hgrow (by simp; omega) hgo
   have hR5 : Hid (TxnRow w.heap.size w5 v' (ps ++ [⟨⟨i, s, q, xs⟩, a, c⟩])) := (hR.below hbA).append ⟨⟨i, s, q, xs⟩, a, c⟩ (own_below ho hbA) hpn (by simpa [TxnP.cells, TxnP.sl] using hown) hgrow (by rw [World.size_alloc]; exact hat) hnil
   replace hg := grown_low hg hB5
   replace hS := hS.low hB5 hlt.2
   have HP5 : Hid (∀ p ∈ ps ++ [(⟨⟨i, s, q, xs⟩, a, c⟩ : TxnP)], p.d.acts.length ≤ 5) := by
    intro p hp
    simp only [List.mem_append, List.mem_singleton] at hp
    rcases hp with hp | rfl
    ·exact HP.out p hp
    ·show xs.length ≤ 5; omega
   clear hR ho ho2 hown hgrow hat hnil hgo hB5 hbA hpn
   go_wp2
   go_roundw
   case rel => exact ⟨j - 1, ps ++ [⟨⟨i, s, q, xs⟩, a, c⟩], by go_num, by simp; omega, HP5, hR5.out, hS.mono (by simp; omega), hg⟩
   case measure => simp [intOf]; omega
  ·go_wp2
   go_ret
   exact ⟨_, ps, rfl, by omega, HP.out, hR, hS.mono (by omega), hg⟩

set_option maxRecDepth 100000 in
set_option maxHeartbeats 1000000 in
theorem l2BentMany_any (B b T : Nat) (w : World) (hS : Src B w b T) (hT : T ≤ 700000) :
  Calls Tryz.prog 59 #[.pointer (some ⟨b, 0, none⟩)] w fun e w' => ∃ (v : Value) (ps : List TxnP), e = .returned v ∧ ps.length ≤ 61 ∧ (∀ p ∈ ps, p.d.acts.length ≤ 5) ∧ TxnRow w.heap.size w' v ps ∧ Src B w' b (T + 200) ∧ w.grownBy w' (some b) := by
 obtain ⟨i0, hi, hz0, hz1, hz2⟩ := info_parts infoTxn
 have hlt := hS.lt
 go_enter Tryz.func59, Tryz.ntmps59
 go_wp2_with fail
 refine (l2Many_any B b T w hS (by omega)).mono ?_
 rintro e w1 ⟨v, ps, rfl, hpl, hpa, hR, hSn, hg⟩
 replace hS := hSn
 clear hSn
 obtain ⟨a1, c1, rfl⟩ := own_shape hR.1
 have HP : Hid (∀ p ∈ ps, p.d.acts.length ≤ 5) := hpa
 clear hpa
 go_wp2_with fail
 refine (next_any B b (T + 100) 12 w1 hS (by omega) (by omega)).mono ?_
 rintro e wr ⟨r, rfl, hr, hSn, hgn⟩
 replace hR := hR.src hlt.2 hgn
 replace hg := hg.trans hgn
 replace hS := hSn
 have hsz := hg.size
 clear hgn hSn hr
 by_cases hr0 : r = 0
 ·subst hr0
  go_wp2_with fail
  refine (l2Bent_any B b (T + 100 + 1) wr hS (by omega)).mono ?_
  rintro e w4 ⟨i, s, q, a, c, xs, rfl, hx5, ho, hSn, hgn⟩
  have hpn : Value.ownBlock (.slice a xs.length c) = none ∨ Value.ownBlock (.slice a xs.length c) ≠ Value.ownBlock (.slice a1 ps.length c1) := own_apart3' hR.1 ho (Nat.le_refl _)
  replace hR := hR.src hlt.2 hgn
  replace hg := hg.trans hgn
  replace hS := hSn
  replace ho := own_base ho hsz
  clear hgn hSn
  have hbA : Below w4.heap.size w4 (w4.alloc (.cells #[.int .i64 i, .int .i64 s, .int .i64 q, .slice a xs.length c] 120)) := by go_grown
  have hsz4 := hg.size
  have ho2 := own_below hR.1 hbA
  go_wp2_with (at_builtin; refine wpList_append_own_at _ rfl _ _ 24 rfl w.heap.size 120 i0 (.agg #[.int .i64 0, .int .i64 0, .int .i64 0, .slice none 0 0]) 4 48 Tryz.underlying24 hi hz0 hz1 hz2 rfl (by decide) _ ps.length (txnCells ps) rfl ho2 ⟨w4.heap.size, 0, none⟩ 1 1 [.int .i64 i, .int .i64 s, .int .i64 q, .slice a xs.length c] rfl rfl ?c1 ?c2 ?c3 ?c4 ?c5 ?_)
  all_goals try (case c1 => intro j u hj; match j, hj with | 0, hj => simp at hj; subst hj; simp [Addr.add] | 1, hj => simp at hj; subst hj; simp [Addr.add] | 2, hj => simp at hj; subst hj; simp [Addr.add] | 3, hj => simp at hj; subst hj; simp [Addr.add])
  all_goals try (case c2 => intro u hu; simp at hu; rcases hu with rfl | rfl | rfl | rfl <;> rfl)
  all_goals try (case c3 => unfold maxLen; omega)
  all_goals try (case c4 => omega)
  all_goals try (case c5 => first | omega | (simp; omega))
  intro v' w5 hown hgrow hnil hat
  have hgo : ∀ j, (Value.slice a1 ps.length c1).ownBlock = some j → w.heap.size ≤ j := fun j hj => (ho2.lt j hj).1
  have hB5 : Below w.heap.size w4 w5 := ((Below.refl w.heap.size w4).alloc hsz4 (.cells #[.int .i64 i, .int .i64 s, .int .i64 q, .slice a xs.length c] 120)).grown hgrow (by simp; omega) hgo
  have hR5 : Hid (TxnRow w.heap.size w5 v' (ps ++ [⟨⟨i, s, q, xs⟩, a, c⟩])) := (hR.below hbA).append ⟨⟨i, s, q, xs⟩, a, c⟩ (own_below ho hbA) hpn (by simpa [TxnP.cells, TxnP.sl] using hown) hgrow (by rw [World.size_alloc]; exact hat) hnil
  replace hg := grown_low hg hB5
  replace hS := hS.low hB5 hlt.2
  have HP5 : Hid (∀ p ∈ ps ++ [(⟨⟨i, s, q, xs⟩, a, c⟩ : TxnP)], p.d.acts.length ≤ 5) := by
   intro p hp
   simp only [List.mem_append, List.mem_singleton] at hp
   rcases hp with hp | rfl
   ·exact HP.out p hp
   ·show xs.length ≤ 5; omega
  clear hR ho ho2 hown hgrow hat hnil hgo hB5 hbA hpn
  go_wp2
  go_ret
  exact ⟨v', ps ++ [⟨⟨i, s, q, xs⟩, a, c⟩], rfl, by simp; omega, HP5.out, hR5.out, hS.mono (by omega), hg⟩
 have hr0' : (r == 0) = false := by simpa using hr0
 by_cases hr1 : r = 1
 ·subst hr1
  have hby : i0.bytes * 61 ≤ 281474976710656 := by rw [hz2]; omega
  have hmx : 61 ≤ maxLen := by unfold maxLen; omega
  clear hr0 hr0' hR
  go_wp2_with (at_make; refine wpList_make_full _ rfl _ _ 24 rfl wr.heap.size 120 i0 (.agg #[.int .i64 0, .int .i64 0, .int .i64 0, .slice none 0 0]) 4 Tryz.underlying24 hi hz0 hz1 _ _ _ _ 61 rfl rfl rfl rfl hby hmx (Nat.le_refl _) ?_)
  intro w3 hown hgrow
  have hb3 : Below wr.heap.size wr w3 := (Below.refl _ _).grown hgrow (Nat.le_refl _) (by simp)
  have R : Hid (TxnRow w.heap.size w3 (.slice (some ⟨wr.heap.size, 0, none⟩) 61 61) (List.replicate 61 txnPNo)) := by
   refine ⟨by rw [← made61]; exact own_base hown hsz, fun p hp => ?_, by simp⟩
   rw [List.eq_of_mem_replicate hp]
   exact ⟨World.ownsRow_nil _ _ _ _, Or.inl rfl⟩
  replace hS := hS.below hb3
  replace hg := grown_low hg (hb3.mono hsz)
  clear hown hgrow hb3
  go_wp2
  go_ret
  exact ⟨_, List.replicate 61 txnPNo, rfl, by simp, fun p hp => by rw [List.eq_of_mem_replicate hp]; exact Nat.zero_le _, R.out, hS.mono (by omega), hg⟩
 have hr1' : (r == 1) = false := by simpa using hr1
 clear hr0 hr1
 go_wp2
 go_ret
 exact ⟨_, ps, rfl, by omega, HP.out, hR, hS.mono (by omega), hg⟩

end Go.Proofs.YtmgkjcobdmdjmaaGreatDoor
namespace Go.Proofs.YtmgkjcobdmdjmaaGreatDoor
open Go.RowKit
open Go.BigFrame
set_option linter.unusedVariables false
set_option maxRecDepth 100000
set_option linter.unusedSimpArgs false
theorem actK_fpv (v : Value) (zs : List ActD) : actK.fp v zs = blk v := by
 have : zs.flatMap actK.foot = [] := by
  rw [List.flatMap_eq_nil_iff]
  intro _ _
  rfl
 unfold Kind.fp
 rw [this, List.append_nil]

theorem own_acts {w : World} {base : Nat} {v : Value} {xs : List ActD} (h : w.ownsRow base 179 3 v xs.length (actCells xs)) : actK.Own w v xs ∧ ∀ k ∈ actK.fp v xs, base ≤ k := by
 obtain ⟨o, hk⟩ := own_zero h
 exact ⟨⟨o, fun _ _ => trivial⟩, by rw [actK_fpv]; exact hk⟩

theorem Src.out {B b T : Nat} {F : List Nat} {w w' : World} (h : Src B w b T) (ho : Out F w w') (hb : b ∉ F) (hF : ∀ k ∈ F, B ≤ k) : Src B w' b T :=
 h.kept ho.size (ho.block b h.lt.2 hb) (fun k hk => ho.block k (by have := h.lt; omega) (fun e => by have := hF k e; omega))

theorem grown_out {w wr w' : World} {b : Nat} {F : List Nat} (hg : w.grownBy wr (some b)) (ho : Out F wr w') (hF : ∀ k ∈ F, w.heap.size ≤ k) : w.grownBy w' (some b) :=
 ⟨ho.os.trans hg.os, ho.tape.trans hg.tape, ho.output.trans hg.output, Nat.le_trans hg.size ho.size, fun k hk hne => (ho.block k (Nat.lt_of_lt_of_le hk hg.size) (fun e => by have := hF k e; omega)).trans (hg.block k hk hne)⟩

set_option maxRecDepth 100000 in
set_option maxHeartbeats 2000000 in
theorem l6DrawBatch_any (B b T : Nat) (w : World) (hS : Src B w b T) (hT : T ≤ 800000) :
  Calls Tryz.prog 57 #[.pointer (some ⟨b, 0, none⟩)] w fun e w' => ∃ (v : Value) (ps : List TxnQ), e = .returned v ∧ ps.length ≤ 3 ∧ (∀ p ∈ ps, p.acts.length ≤ 3) ∧ txnK.Own w' v ps ∧ (txnK.fp v ps).Nodup ∧ (∀ k ∈ txnK.fp v ps, w.heap.size ≤ k) ∧ Src B w' b (T + 50) ∧ w.grownBy w' (some b) := by
 obtain ⟨i0, hi, hz0, hz1, hz2⟩ := info_parts infoTxn
 have hlt := hS.lt
 obtain ⟨ho0, hk0⟩ := own_zero (World.ownsRow_lit (e := 120) (size := 4) w #[] 0 (Nat.le_refl _) (by decide) rfl)
 have hg : w.grownBy (w.alloc (.cells #[] 120)) (some b) := World.grownBy_alloc w _ _
 replace hS : Src B (w.alloc (.cells #[] 120)) b T := hS.below (by go_grown)
 have hR0 : txnK.Own (w.alloc (.cells #[] 120)) (.slice (some ⟨w.heap.size, 0, none⟩) 0 0) ([] : List TxnQ) := ⟨ho0, fun p hp => by simp at hp⟩
 have hN0 : Hid ((txnK.fp (.slice (some ⟨w.heap.size, 0, none⟩) 0 0) ([] : List TxnQ)).Nodup ∧ ∀ k ∈ txnK.fp (.slice (some ⟨w.heap.size, 0, none⟩) 0 0) ([] : List TxnQ), w.heap.size ≤ k) := by
  constructor
  ·simp [Kind.fp, blk, Value.ownBlock]
  ·intro k hk
   simp [Kind.fp, blk, Value.ownBlock] at hk
   omega
 go_enter Tryz.func57, Tryz.ntmps57
 go_wp2_with fail
 generalize w.alloc (.cells #[] 120) = W1 at hR0 hg hS
 refine (next_any B b T 3 W1 hS (by omega) (by omega)).mono ?_
 rintro e w3 ⟨r, rfl, hr, hSn, hgn⟩
 obtain ⟨j0, rfl⟩ := Int.eq_ofNat_of_zero_le hr.1
 have hj0 : j0 ≤ 2 := by have := hr.2.1 (by omega); omega
 replace hR0 := hR0.out (Out.of_grown hgn) (fun k hk hk' => by
  simp only [Option.toList, List.mem_singleton] at hk'
  have := hN0.out.2 k hk
  omega)
 replace hg := hg.trans hgn
 replace hS := hSn
 clear hgn hSn hr ho0 hk0
 go_wp2
 go_loopw [3, 4] (fun v c wr => ∃ (j : Nat) (ps : List TxnQ), c = .int .i64 j ∧ j ≤ 3 ∧ j + ps.length ≤ 3 ∧ Hid (∀ p ∈ ps, p.acts.length ≤ 3) ∧ txnK.Own wr v ps ∧ Hid ((txnK.fp v ps).Nodup ∧ ∀ k ∈ txnK.fp v ps, w.heap.size ≤ k) ∧ Src B wr b (T + 1 + 13 * (3 - j)) ∧ w.grownBy wr (some b)) (fun _ c _ => (intOf c).toNat)
 case atStart => exact ⟨1 + j0, [], by go_num, by omega, by simp; omega, (by intro p hp; simp at hp), hR0, hN0, hS.mono (by omega), hg⟩
 case round =>
  clear hR0 hS hg hN0
  obtain ⟨j, ps, rfl, hj3, hj, HP, hR, HN, hS, hg⟩ := hrel
  have hsz := hg.size
  obtain ⟨a1, c1, rfl⟩ := hR.shape
  by_cases hpos : 0 < j
  ·go_wp2_with fail
   refine (l2Draw_any B b (T + 1 + 13 * (3 - j)) wr hS (by omega)).mono ?_
   rintro e w4 ⟨i, s, q, a, c, xs, rfl, hx1, hx3, ho, hSn, hgn⟩
   obtain ⟨oA, gA⟩ := own_acts ho
   have HF : Hid (∀ x ∈ txnK.fp (.slice a1 ps.length c1) ps, x < wr.heap.size) := hR.lt
   replace hR := hR.out (Out.of_grown hgn) (fun k hk hk' => by
    simp only [Option.toList, List.mem_singleton] at hk'
    have := HN.out.2 k hk
    omega)
   replace hg := hg.trans hgn
   replace hS := hSn
   clear hgn hSn ho
   have hbA : Below w4.heap.size w4 (w4.alloc (.cells #[.int .i64 i, .int .i64 s, .int .i64 q, .slice a xs.length c] 120)) := by go_grown
   have Bt := Blk.new w4 120 #[.int .i64 i, .int .i64 s, .int .i64 q, .slice a xs.length c]
   have hsz4 := hg.size
   replace hR := hR.below hbA
   replace oA := oA.below hbA
   replace hS := hS.below hbA
   replace hg := grown_low hg (hbA.mono hsz4)
   clear hbA
   go_wp2_with fail
   generalize w4.alloc (.cells #[.int .i64 i, .int .i64 s, .int .i64 q, .slice a xs.length c] 120) = W5 at *
   have hW : Below W5.heap.size W5 W5.drew := (Below.refl _ _).drew
   have hnn : Nonempty (Lat W5) := ⟨⟨W5, Below.refl _ _⟩⟩
   have k0 := Bt.lat 0 _ rfl
   have hL60 : ((ps.map TxnQ.e).length : Nat) ≤ 60 := by rw [List.length_map]; omega
   refine text_begin (S := fun w' => ∃ u : Lat W5, w' = u.val) (by kernel_rfl) ?_
   refine seg_range [(0, 1), (2, 2)] 3 (by kernel_rfl) (by kernel_rfl) (by kernel_rfl) (by kernel_rfl) (by kernel_rfl) ⟨⟨_, hW⟩, rfl⟩ ?_
   simp only [pickR, List.toList_toArray, List.flatMap_cons, List.flatMap_nil, List.drop_succ_cons, List.drop_zero, List.take_succ_cons, List.take_zero, List.cons_append, List.nil_append, List.append_nil]
   repeat go_big_quiet_step (fail)
   refine wpQuiet_nil ?_
   refine call_at 1 (some 17) 123 #[.slice a1 ps.length c1] 2 (by kernel_rfl) (by kernel_rfl) (by kernel_rfl) (by kernel_rfl) (by kernel_rfl) ?_
   refine (l2Ids_any _ (ps.map TxnQ.e) _ (txnsAt_of (hR.below hW).at) hL60).mono ?_
   rintro e w6 ⟨ba, bc, rfl, hoI, hb6⟩
   replace hW := hW.trans (hb6.mono hW.size)
   clear hb6
   refine ⟨_, rfl, ⟨⟨_, hW⟩, rfl⟩, ?_⟩
   simp only [Act.put, List.getElem_toArray, List.getElem_cons_succ, List.getElem_cons_zero, List.setIfInBounds_toArray, List.set_cons_zero, List.set_cons_succ]
   have hIl : ((ps.map TxnQ.e).map TxnD.id).length ≤ 1048576 := by rw [List.length_map]; omega
   generalize hL : (ps.map TxnQ.e).map TxnD.id = L at *
   clear hL
   refine call_at 4 (some 20) 122 #[.slice ba L.length bc, .int .i64 i] 1 (by kernel_rfl) (by kernel_rfl) (by kernel_rfl) (by kernel_rfl) (by kernel_rfl) ?_
   refine (l1Find_any ba bc L i w6 (Row.own hoI) hIl).mono ?_
   rintro e w7 ⟨rfl, hw7⟩
   replace hw7 := hw7.symm
   subst hw7
   refine ⟨_, rfl, ⟨⟨_, hW⟩, rfl⟩, ?_⟩
   simp only [Act.put, List.getElem_toArray, List.getElem_cons_succ, List.getElem_cons_zero, List.setIfInBounds_toArray, List.set_cons_zero, List.set_cons_succ]
   refine seg_range [(5, 1)] 0 (by kernel_rfl) (by kernel_rfl) (by kernel_rfl) (by kernel_rfl) (by kernel_rfl) ⟨⟨_, hW⟩, rfl⟩ ?_
   simp only [pickR, List.toList_toArray, List.flatMap_cons, List.flatMap_nil, List.drop_succ_cons, List.drop_zero, List.take_succ_cons, List.take_zero, List.cons_append, List.nil_append, List.append_nil]
   repeat go_big_quiet_step (fail)
   refine wpQuiet_nil ?_
   refine text_end (by kernel_rfl) ?_
   have hsz5 := hg.size
   replace hR := hR.below hW
   replace oA := oA.below hW
   replace hS := hS.below hW
   replace Bt := Bt.below hW
   replace hg := grown_low hg (hW.mono hsz5)
   clear hW hnn k0 hoI hL60 hIl
   generalize idxI L i = ix at *
   by_cases hix : ix < 0
   ·have p0 := Bt.cell 0 _ rfl
    have p1 := Bt.cell 1 _ rfl
    have p2 := Bt.cell 2 _ rfl
    have p3 := Bt.cell 3 _ rfl
    have hbA : Below w6.heap.size w6 (w6.alloc (.cells #[.int .i64 i, .int .i64 s, .int .i64 q, .slice a xs.length c] 120)) := by go_grown
    have hsz6 := hg.size
    have hR2 := hR.below hbA
    have oA2 := oA.below hbA
    have hrow0 := hR2.1
    go_wp2_with (at_builtin; refine wpList_append_own_at _ rfl _ _ 24 rfl 0 120 i0 (.agg #[.int .i64 0, .int .i64 0, .int .i64 0, .slice none 0 0]) 4 48 Tryz.underlying24 hi hz0 hz1 hz2 rfl (by decide) _ ps.length (txnK.row ps) rfl hrow0 ⟨w6.heap.size, 0, none⟩ 1 1 [.int .i64 i, .int .i64 s, .int .i64 q, .slice a xs.length c] rfl rfl ?c1 ?c2 ?c3 ?c4 ?c5 ?_)
    all_goals try (case c1 => intro j u hj; match j, hj with | 0, hj => simp at hj; subst hj; simp [Addr.add] | 1, hj => simp at hj; subst hj; simp [Addr.add] | 2, hj => simp at hj; subst hj; simp [Addr.add] | 3, hj => simp at hj; subst hj; simp [Addr.add])
    all_goals try (case c2 => intro u hu; simp at hu; rcases hu with rfl | rfl | rfl | rfl <;> rfl)
    all_goals try (case c3 => unfold maxLen; omega)
    all_goals try (case c4 => omega)
    all_goals try (case c5 => first | omega | (simp; omega))
    intro v' w8 hown hgrow hnil hat
    clear p0 p1 p2 p3
    obtain ⟨hO5, hn5, hlo5, hou⟩ := hR2.snoc (p := (⟨i, s, q, .slice a xs.length c, xs⟩ : TxnQ)) (B := w.heap.size) HN.out.1 HN.out.2 oA2 (by show (actK.fp _ _).Nodup; rw [actK_fpv]; exact blk_nodup _) (fun x hx hx' => by
     have h1 := gA x hx
     have h2 := HF.out x hx'
     omega) (fun x hx => by have := gA x hx; omega) (by simp; omega) hown hgrow (by rw [World.size_alloc]; exact hat)
    have HP5 : Hid (∀ p ∈ ps ++ [(⟨i, s, q, .slice a xs.length c, xs⟩ : TxnQ)], p.acts.length ≤ 3) := by
     intro p hp
     simp only [List.mem_append, List.mem_singleton] at hp
     rcases hp with hp | rfl
     ·exact HP.out p hp
     ·exact hx3
    have HN5 : Hid (_ ∧ _) := And.intro hn5 hlo5
    have hFlo : ∀ k ∈ blk (.slice a1 ps.length c1), w.heap.size ≤ k := fun k hk => HN.out.2 k (by simp only [Kind.fp, List.mem_append]; exact Or.inl hk)
    have hg8 := grown_out (grown_low hg (hbA.mono hsz6)) hou hFlo
    have hS8 := (hS.below hbA).out hou (fun hk => by have := hFlo b hk; omega) (fun k hk => by have := hFlo k hk; omega)
    have hl5 : (ps ++ [(⟨i, s, q, .slice a xs.length c, xs⟩ : TxnQ)]).length = ps.length + 1 := by simp
    have HL5 : Hid ((ps ++ [(⟨i, s, q, .slice a xs.length c, xs⟩ : TxnQ)]).length = ps.length + 1) := hl5
    clear hl5 hn5 hlo5 hR hR2 oA oA2 hown hgrow hat hnil hou hbA hg hS hrow0 Bt gA HF hFlo
    generalize ps ++ [(⟨i, s, q, .slice a xs.length c, xs⟩ : TxnQ)] = ps' at *
    go_wp2
    go_roundw
    case rel => exact ⟨j - 1, ps', by go_num, by omega, by have := HL5.out; omega, HP5, hO5, HN5, hS8.mono (by omega), hg8⟩
    case measure => simp [intOf]; omega
   ·clear Bt oA gA HF
    go_wp2
    go_roundw
    case rel => exact ⟨j - 1, ps, by go_num, by omega, by omega, HP, hR, HN, hS.mono (by omega), hg⟩
    case measure => simp [intOf]; omega
  ·go_wp2
   go_ret
   exact ⟨_, ps, rfl, by omega, HP.out, hR, HN.out.1, HN.out.2, hS.mono (by omega), hg⟩

end Go.Proofs.YtmgkjcobdmdjmaaGreatDoor

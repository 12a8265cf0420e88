/- What the draws of chapter 2 tell at whatever bytes: some transaction. -/
import Derived.Test.YtbdphnmkpkgdeaaDraw2
namespace Go.Proofs.Ytbdphnmkpkgdeaa
open Go.RowKit
open Go.BigFrame
set_option linter.unusedVariables false
set_option linter.unusedSimpArgs false

set_option maxRecDepth 100000 in
set_option maxHeartbeats 1000000 in
theorem l2Draw_any (B b T : Nat) (w : World) (hS : Src B w b T) (hT : T ≤ 900000) :
    Calls Try.prog 45 #[.pointer (some ⟨b, 0, none⟩)] w fun e w' => ∃ (i s q : Int) (a : Option Addr) (c : Nat) (xs : List ActD), e = .returned (.agg #[.int .i64 i, .int .i64 s, .int .i64 q, .slice a xs.length c]) ∧ 1 ≤ xs.length ∧ xs.length ≤ 3 ∧
      w'.ownsRow w.heap.size 90 3 (.slice a xs.length c) xs.length (actCells xs) ∧ Src B w' b (T + 13) ∧ w.grownBy w' (some b) := by
  have hlt := hS.lt
  have B0 := Blk.new w 35 #[.int .i64 0, .int .i64 0, .int .i64 0, .slice none 0 0]
  have hg : w.grownBy (w.alloc (.cells #[.int .i64 0, .int .i64 0, .int .i64 0, .slice none 0 0] 35)) (some b) := World.grownBy_alloc w _ _
  replace hS : Src B (w.alloc (.cells #[.int .i64 0, .int .i64 0, .int .i64 0, .slice none 0 0] 35)) b T := hS.below (by go_grown)
  go_enter Try.func45, Try.ntmps45
  go_wp2_with fail
  generalize w.alloc (.cells #[.int .i64 0, .int .i64 0, .int .i64 0, .slice none 0 0] 35) = W1 at B0 hg hS
  refine (next_any B b T 12 W1 hS (by omega) (by omega)).mono ?_
  rintro e w3 ⟨r, rfl, hr, hSn, hgn⟩
  have r1 := hr.1
  have r2 := hr.2.1 (by omega)
  replace B0 := B0.grown hgn (by simp; omega)
  replace hg := hg.trans hgn
  replace hS := hSn
  have hsz_w3 := hgn.size
  clear hgn hSn
  clear hr
  go_wp2_with fail
  refine (next_any B b (T + 1) 3 w3 hS (by omega) (by omega)).mono ?_
  rintro e w4 ⟨s, rfl, hr, hSn, hgn⟩
  have s1 := hr.1
  have s2 := hr.2.1 (by omega)
  replace B0 := B0.grown hgn (by simp; omega)
  replace hg := hg.trans hgn
  replace hS := hSn
  have hsz_w4 := hgn.size
  clear hgn hSn
  clear hr
  go_wp2_with fail
  refine (next_any B b (T + 1 + 1) 4 w4 hS (by omega) (by omega)).mono ?_
  rintro e w5 ⟨q, rfl, hr, hSn, hgn⟩
  have q1 := hr.1
  have q2 := hr.2.1 (by omega)
  replace B0 := B0.grown hgn (by simp; omega)
  replace hg := hg.trans hgn
  replace hS := hSn
  have hsz_w5 := hgn.size
  clear hgn hSn
  clear hr
  have hbA : Below w5.heap.size w5 (w5.alloc (.cells #[.int .i64 (1 + r), .int .i64 (1 + s), .int .i64 (1 + q), .slice none 0 0] 35)) := by go_grown
  have Bt := Blk.new w5 35 #[.int .i64 (1 + r), .int .i64 (1 + s), .int .i64 (1 + q), .slice none 0 0]
  have hr5 : w.heap.size < w5.heap.size := B0.lt
  replace B0 := B0.below hbA
  replace hS := hS.below hbA
  replace hg := grown_low hg (hbA.mono hg.size)
  go_wp2_with fail
  have hs6 : (w5.alloc (.cells #[.int .i64 (1 + r), .int .i64 (1 + s), .int .i64 (1 + q), .slice none 0 0] 35)).heap.size = w5.heap.size + 1 := by simp
  generalize w5.alloc (.cells #[.int .i64 (1 + r), .int .i64 (1 + s), .int .i64 (1 + q), .slice none 0 0] 35) = W6 at B0 Bt hS hg hs6
  clear hbA
  refine (next_any B b (T + 1 + 1 + 1) 3 W6 hS (by omega) (by omega)).mono ?_
  rintro e w7 ⟨k, rfl, hr, hSn, hgn⟩
  have k1 := hr.1
  have k2 := hr.2.1 (by omega)
  replace B0 := B0.grown hgn (by simp; omega)
  replace Bt := Bt.grown hgn (by simp; omega)
  replace hg := hg.trans hgn
  replace hS := hSn
  have hsz_w7 := hgn.size
  clear hgn hSn
  clear hr
  obtain ⟨j0, rfl⟩ := Int.eq_ofNat_of_zero_le k1
  have hj0 : j0 ≤ 2 := by omega
  have hs7 : w5.heap.size + 1 ≤ w7.heap.size := by omega
  clear k1 k2 hs6 hsz_w7 hsz_w3 hsz_w4 hsz_w5
  have hr0 : (0 : Int) ≤ 1 + r ∧ 1 + r ≤ 100 := by omega
  go_wp2
  go_loopw [4] (fun c wr => ∃ (j : Nat) (xs : List ActD) (a1 : Option Addr) (c1 : Nat), c = .int .i64 j ∧ j + xs.length ≤ 3 ∧ 1 ≤ j + xs.length ∧ Blk wr w.heap.size 35 #[.int .i64 0, .int .i64 0, .int .i64 0, .slice none 0 0] ∧ Blk wr w5.heap.size 35 #[.int .i64 (1 + r), .int .i64 (1 + s), .int .i64 (1 + q), .slice a1 xs.length c1] ∧ wr.ownsRow (w5.heap.size + 1) 90 3 (.slice a1 xs.length c1) xs.length (actCells xs) ∧ Src B wr b (T + 4 + 3 * xs.length) ∧ w.grownBy wr (some b) ∧ w5.heap.size + 1 ≤ wr.heap.size) (fun c _ => (intOf c).toNat)
  case atStart => exact ⟨j0 + 1, [], none, 0, by go_num, by simp; omega, by simp, B0, Bt, World.ownsRow_nil _ _ _ _, hS, hg, hs7⟩
  case round =>
    clear B0 Bt hS hg hs7
    obtain ⟨j, xs, a1, c1, rfl, hj3, hj1, B0, Bt, ho, hS, hg, hsz⟩ := hrel
    by_cases hpos : 0 < j
    · have hnb : some b ≠ Value.ownBlock (.slice a1 xs.length c1) := own_not3 ho (Or.inl (by omega))
      have t3 : wr.cell? ⟨w5.heap.size, 3, none⟩ = some (.slice a1 xs.length c1) := Bt.cell 3 _ rfl
      generalize hP : (fun u : World => u.cell? ⟨w5.heap.size, 3, none⟩ = some (.slice a1 xs.length c1)) = PP
      have hP0 : PP wr := by subst hP; exact t3
      have cc0 : ∀ u : KeepP PP, u.val.cell? ⟨w5.heap.size, 3, none⟩ = some (.slice a1 xs.length c1) := fun u => by have := u.isP; subst hP; exact this
      have hnn : Nonempty (KeepP PP) := ⟨⟨wr, hP0⟩⟩
      go_wp2_with fail
      refine beginX (S := fun w' => ∃ u : KeepP PP, w' = u.val) (R := fun _ _ => False) 7 (by kernel_rfl) (fun _ _ _ _ h => h.elim) ?_
      have hPd : PP wr.drew := by subst hP; exact hP0
      refine segX [(0, 3)] 5 (by kernel_rfl) (by kernel_rfl) (by kernel_rfl) (by kernel_rfl) (by kernel_rfl) ⟨⟨wr.drew, hPd⟩, rfl⟩ ?_
      simp only [pickR, List.toList_toArray, List.flatMap_cons, List.flatMap_nil, List.drop_succ_cons, List.drop_zero, List.take_succ_cons, List.take_zero, List.cons_append, List.nil_append, List.append_nil]
      repeat go_big_quiet_step (fail)
      refine wpQuiet_nil ?_
      clear cc0 hnn hP0 t3 hPd
      replace Bt : Blk wr.drew w5.heap.size 35 #[.int .i64 (1 + r), .int .i64 (1 + s), .int .i64 (1 + q), .slice a1 xs.length c1] := Bt
      replace B0 : Blk wr.drew w.heap.size 35 #[.int .i64 0, .int .i64 0, .int .i64 0, .slice none 0 0] := B0
      replace ho := ho.drew
      have hdr : Below wr.heap.size wr wr.drew := (Below.refl _ _).drew
      replace hS := hS.below hdr
      replace hg := grown_low hg (hdr.mono hg.size)
      have keepP : ∀ u : World, Blk u w5.heap.size 35 #[.int .i64 (1 + r), .int .i64 (1 + s), .int .i64 (1 + q), .slice a1 xs.length c1] → PP u := by
        intro u hu
        subst hP
        exact hu.cell 3 _ rfl
      clear hP hdr
      have hszd : w5.heap.size + 1 ≤ wr.drew.heap.size := hsz
      generalize wr.drew = wd at Bt B0 ho hS hg hszd
      refine callX 3 (some 25) 69 #[.pointer (some ⟨b, 0, none⟩)] 4 (by kernel_rfl) (by kernel_rfl) (by kernel_rfl) (by kernel_rfl) (by kernel_rfl) rfl ?_
      refine (l2DrawAct_any B b (T + 4 + 3 * xs.length) wd hS (by omega)).mono ?_
      rintro e w8 ⟨k, y, z, rfl, hSn, hgn⟩
      refine Or.inl ⟨_, rfl, ?_⟩
      replace Bt := Bt.grown hgn (by simp; omega)
      replace B0 := B0.grown hgn (by simp; omega)
      replace ho := ho.kept hgn (Or.inr (fun e => hnb e.symm))
      replace hg := hg.trans hgn
      replace hS := hSn
      have hsz8 : w5.heap.size + 1 ≤ w8.heap.size := Nat.le_trans hszd hgn.size
      clear hgn hSn hsz hszd
      refine ⟨⟨⟨w8, keepP _ Bt⟩, rfl⟩, ?_⟩
      simp only [Act.put, List.getElem_toArray, List.getElem_cons_succ, List.getElem_cons_zero, List.setIfInBounds_toArray, List.set_cons_zero, List.set_cons_succ]
      have hbA : Below w8.heap.size w8 (w8.alloc (.cells #[.int .i64 k, .int .i64 y, .int .i64 z] 90)) := by go_grown
      refine oneX 4 _ 3 (by kernel_rfl) rfl (by kernel_rfl) ?_
      go_wp2
      replace Bt := Bt.below hbA
      replace B0 := B0.below hbA
      replace hS := hS.below hbA
      replace hg := grown_low hg (hbA.mono hg.size)
      refine ThenX.to ⟨Or.inr ⟨⟨_, keepP _ Bt⟩, rfl⟩, ?_⟩
      have hsA : (w5.heap.size + 1) ≤ (w8.alloc (.cells #[.int .i64 k, .int .i64 y, .int .i64 z] 90)).heap.size := by simp; omega
      have hsrc : ∀ j u, [Value.int .i64 k, .int .i64 y, .int .i64 z][j]? = some u → (w8.alloc (.cells #[.int .i64 k, .int .i64 y, .int .i64 z] 90)).cell? ((⟨w8.heap.size, 0, none⟩ : Addr).add j) = some u := by
        intro j u hj; match j, hj with | 0, hj => simp at hj; subst hj; simp [Addr.add] | 1, hj => simp at hj; subst hj; simp [Addr.add] | 2, hj => simp at hj; subst hj; simp [Addr.add]
      replace ho := own_below ho hbA
      generalize w8.alloc (.cells #[.int .i64 k, .int .i64 y, .int .i64 z] 90) = wb at hbA Bt B0 hS hg hsA hsrc ho
      obtain ⟨i0, hi, hz0, hz1, hz2⟩ := info_parts infoAct
      refine oneX 5 _ 2 (by kernel_rfl) rfl (by kernel_rfl) ?_
      refine wpList_append_own _ rfl _ _ 33 rfl (w5.heap.size + 1) 90 i0 (.agg #[.int .i64 0, .int .i64 0, .int .i64 0]) 3 24 Try.underlying33 hi hz0 hz1 hz2 rfl (by decide) _ xs.length (actCells xs) rfl ho ⟨w8.heap.size, 0, none⟩ 1 1 [.int .i64 k, .int .i64 y, .int .i64 z] rfl rfl hsrc ?c2 ?c3 ?c4 ?c5 ?_
      case c2 => intro u hu; simp at hu; rcases hu with rfl | rfl | rfl <;> rfl
      case c3 => unfold maxLen; omega
      case c4 => omega
      case c5 => exact hsA
      intro v' wc hown hgrow _
      obtain ⟨a2, c2, rfl⟩ := own_shape hown
      have hgo : ∀ j, (Value.slice a1 xs.length c1).ownBlock = some j → (w5.heap.size + 1) ≤ j := fun j hj => (ho.lt j hj).1
      have hBc : Below (w5.heap.size + 1) wb wc := (Below.refl _ _).grown hgrow hsA hgo
      have hsc : (w5.heap.size + 1) ≤ wc.heap.size := Nat.le_trans hsA hBc.size
      replace Bt : Blk wc w5.heap.size 35 #[.int .i64 (1 + r), .int .i64 (1 + s), .int .i64 (1 + q), .slice a1 xs.length c1] := (hBc.block _ (by omega)).trans Bt
      replace B0 : Blk wc w.heap.size 35 #[.int .i64 0, .int .i64 0, .int .i64 0, .slice none 0 0] := (hBc.block _ (by omega)).trans B0
      replace hS := hS.low hBc (by omega)
      replace hg := grown_low hg (hBc.mono (by omega))
      clear hgrow hgo hBc ho hbA hsrc
      go_wp2
      refine ThenX.to ⟨Or.inr ⟨⟨_, keepP _ Bt⟩, rfl⟩, ?_⟩
      simp only [Act.put, List.getElem_toArray, List.getElem_cons_succ, List.getElem_cons_zero, List.setIfInBounds_toArray, List.set_cons_zero, List.set_cons_succ]
      refine oneX 6 _ 1 (by kernel_rfl) rfl (by kernel_rfl) ?_
      go_wp2
      refine ThenX.to ⟨Or.inr ⟨⟨_, keepP _ Bt⟩, rfl⟩, ?_⟩
      refine oneX 7 _ 0 (by kernel_rfl) rfl (by kernel_rfl) ?_
      have t3 := Bt.cell 3 _ rfl
      have t4 := Bt.frozen 3
      go_wp2
      clear t3 t4 keepP
      refine ThenX.to ⟨Or.inl (by kernel_rfl), ?_⟩
      refine endX (by kernel_rfl) ?_
      have hbS : Below w5.heap.size wc (wc.setCell ⟨w5.heap.size, 3, none⟩ (.slice a2 (xs.length + 1) c2)) := (Below.refl _ _).setCell (p := ⟨w5.heap.size, 3, none⟩) (Nat.le_refl _) _
      replace Bt : Blk (wc.setCell ⟨w5.heap.size, 3, none⟩ (.slice a2 (xs.length + 1) c2)) w5.heap.size 35 #[.int .i64 (1 + r), .int .i64 (1 + s), .int .i64 (1 + q), .slice a2 (xs.length + 1) c2] := by
        have := Go.Joins.block_setCell (i := 3) (v := .slice a2 (xs.length + 1) c2) Bt
        unfold Blk
        simpa using this
      replace B0 := (hbS.block _ (by omega)).trans B0
      have ho := ownsRow_setCell_below (a := ⟨w5.heap.size, 3, none⟩) hown (by dsimp only; omega) (.slice a2 (xs.length + 1) c2)
      replace hS := hS.low hbS (by omega)
      replace hg := grown_low hg (hbS.mono (by omega))
      have hszN : (w5.heap.size + 1) ≤ (wc.setCell ⟨w5.heap.size, 3, none⟩ (.slice a2 (xs.length + 1) c2)).heap.size := by simpa [World.setCell] using hsc
      clear hsc hsA hown hi hz0 hz1 hz2 hbS
      generalize wc.setCell ⟨w5.heap.size, 3, none⟩ (.slice a2 (xs.length + 1) c2) = w9 at Bt B0 ho hS hg hszN
      have ho2 : w9.ownsRow (w5.heap.size + 1) 90 3 (.slice a2 (xs.length + 1) c2) (xs.length + 1) (actCells (xs ++ [⟨k, y, z⟩])) := by rw [actCells_snoc']; exact ho
      clear ho
      go_wp2
      go_roundw
      case rel =>
        refine ⟨j - 1, xs ++ [⟨k, y, z⟩], a2, c2, by go_num, by simp; omega, by simp; omega, B0, by simpa using Bt, by simpa using ho2, hS.mono (by simp; omega), hg, hszN⟩
      case measure => simp [intOf]; omega
    · have p0 := B0.cell 0 _ rfl
      have p1 := B0.cell 1 _ rfl
      have p2 := B0.cell 2 _ rfl
      have p3 := B0.cell 3 _ rfl
      have f0 := B0.frozen 0
      have f1 := B0.frozen 1
      have f2 := B0.frozen 2
      have f3 := B0.frozen 3
      have q0 := Bt.cell 0 _ rfl
      have q1 := Bt.cell 1 _ rfl
      have q2 := Bt.cell 2 _ rfl
      have q3 := Bt.cell 3 _ rfl
      clear B0 Bt
      go_wp2
      refine bodyPost_ret (v := .agg #[.int .i64 (1 + r), .int .i64 (1 + s), .int .i64 (1 + q), .slice a1 xs.length c1]) (by simp [results, Try.results45, go_sem, p0, p1, p2, p3]) rfl ?_
      have hbE : ∀ v0 v1 v2 v3 : Value, Below (w.heap.size) wr ((((wr.setCell ⟨w.heap.size, 0, none⟩ v0).setCell ⟨w.heap.size, 1, none⟩ v1).setCell ⟨w.heap.size, 2, none⟩ v2).setCell ⟨w.heap.size, 3, none⟩ v3) := fun v0 v1 v2 v3 =>
        ((((Below.refl _ _).setCell (p := ⟨w.heap.size, 0, none⟩) (Nat.le_refl _) _).setCell (p := ⟨w.heap.size, 1, none⟩) (Nat.le_refl _) _).setCell (p := ⟨w.heap.size, 2, none⟩) (Nat.le_refl _) _).setCell (p := ⟨w.heap.size, 3, none⟩) (Nat.le_refl _) _
      refine ⟨_, _, _, a1, c1, xs, rfl, by omega, by omega, ?_, (hS.low (hbE _ _ _ _) hlt.2).mono (by omega), grown_low hg (hbE _ _ _ _)⟩
      refine own_base (base := w5.heap.size + 1) ?_ (by omega)
      repeat' (refine ownsRow_setCell_below ?_ (by dsimp only; omega) _)
      exact ho

end Go.Proofs.Ytbdphnmkpkgdeaa

/- A round that is laid behind the last one; a report that is laid on a board. -/
import Derived.Test.YtkklhbofeghnbaaDoorI6d
namespace Go.Proofs.YtkklhbofeghnbaaDoor
open Go.RowKit
open Go.BigFrame
set_option linter.unusedVariables false
set_option linter.unusedSimpArgs false
set_option maxRecDepth 100000

theorem blk_setCells (b : Nat) (t : TypeId) : ∀ (vs : List Value) (o : Nat) (w : World) (cs : List Value), Blk w b t cs.toArray → Blk (w.setCells b o vs) b t (setFrom cs o vs).toArray
  | [], _, _, _, h => h
  | v :: r, o, w, cs, h => by
    have h1 := h.set o v
    rw [List.setIfInBounds_toArray] at h1
    exact blk_setCells b t r (o + 1) _ _ h1
theorem out_setCells (b : Nat) : ∀ (vs : List Value) (o : Nat) (w : World), Out [b] w (w.setCells b o vs)
  | [], _, w => Out.refl _ w
  | v :: r, o, w => (Out.setCell w b o v).trans (out_setCells b r (o + 1) _)
theorem setFrom_mid (A B C Y : List Value) (h : B.length = Y.length) : setFrom (A ++ (B ++ C)) A.length Y = A ++ (Y ++ C) := by
  apply List.ext_getElem?
  intro j
  by_cases hj : j < (A ++ (B ++ C)).length
  · rw [setFrom_get _ _ _ _ hj]
    simp only [List.length_append] at hj
    by_cases h1 : A.length ≤ j ∧ j < A.length + Y.length
    · rw [if_pos h1, List.getElem?_append_right h1.1, List.getElem?_append_left (by omega)]
    · rw [if_neg h1]
      by_cases h2 : j < A.length
      · rw [List.getElem?_append_left h2, List.getElem?_append_left h2]
      · rw [List.getElem?_append_right (by omega), List.getElem?_append_right (by omega), List.getElem?_append_right (by omega), List.getElem?_append_right (by omega), h]
  · rw [List.getElem?_eq_none (by rw [setFrom_length]; omega), List.getElem?_eq_none (by simp only [List.length_append] at hj ⊢; omega)]
theorem rowsV_snoc (rs : List RoundE) (q : RoundE) : rowsV (rs ++ [q]) = rowsV rs ++ rowC q := by simp [rowsV]
/-- A round behind the last one, in cells. -/
theorem rnd_snoc {rs : List RoundE} {q : RoundE} (tail : List Value) (h : Wel rs) (hq : q.rep.length = 3 ∧ q.pro.length = 3) (h4 : rs.length < 4) :
    (setFrom (rndC rs ++ tail) (1 + rs.length * 6) (rowC q)).set 0 (iv ((rs.length : Int) + 1)) = rndC (rs ++ [q]) ++ tail := by
  have hl := rowsV_length h
  have hq6 := rowC_length hq
  have e1 : rndC rs ++ tail = (iv rs.length :: rowsV rs) ++ (List.replicate 6 (iv 0) ++ (List.replicate (18 - 6 * rs.length) (iv 0) ++ tail)) := by
    unfold rndC
    rw [show 24 - 6 * rs.length = 6 + (18 - 6 * rs.length) by omega, ← List.replicate_append_replicate]
    simp [List.append_assoc]
  have e2 : (iv rs.length :: rowsV rs).length = 1 + rs.length * 6 := by simp only [List.length_cons, hl]; omega
  rw [e1, ← e2, setFrom_mid _ _ _ _ (by rw [List.length_replicate, hq6])]
  unfold rndC
  rw [rowsV_snoc, List.length_append, List.length_singleton, show 24 - 6 * (rs.length + 1) = 18 - 6 * rs.length by omega]
  simp [List.append_assoc]

/-- The worlds in which the count and the box are as they were. -/
structure LatR (b g : Nat) (w : World) where
  val : World
  cnt : val.cell? ⟨b, 0, none⟩ = w.cell? ⟨b, 0, none⟩
  box : val.heap[g]? = w.heap[g]?

set_option maxHeartbeats 4000000 in
theorem addRound_any (b : Nat) (t : TypeId) (rs : List RoundE) (tail : List Value) (q : RoundE) (w : World) (hB : Blk w b t (rndC rs ++ tail).toArray) (h : Wel rs) (hq : q.rep.length = 3 ∧ q.pro.length = 3) (h4 : rs.length < 4) :
    Calls Tryd.prog 24 #[.pointer (some ⟨b, 0, none⟩), .agg (rowC q).toArray] w fun e w' => e = .returned (.tuple #[]) ∧ Blk w' b t (rndC (rs ++ [q]) ++ tail).toArray ∧ Out [b] w w' := by
  have hblt := hB.lt
  have hb0 : Below w.heap.size w (w.alloc (.cells (rowC q).toArray 49)) := by go_grown
  have G := Blk.new w 49 (rowC q).toArray
  replace hB := hB.below hb0
  have hcell : (w.alloc (.cells (rowC q).toArray 49)).cell? ⟨b, 0, none⟩ = some (iv rs.length) := hB.cell 0 _ rfl
  have hone : (rowC q).toArray.all (·.oneCell') = true := one_iv _
  have hsz6 : (Tryd.prog.info? 49).map (·.size) = some (rowC q).length := by rw [rowC_length hq]; exact sz_rows
  have hlen := rndC_length h (by omega)
  have hthere : ∀ W' : World, W'.heap[b]? = (w.alloc (.cells (rowC q).toArray 49)).heap[b]? → W'.there b (1 + rs.length * 6) (rowC q).toArray.size := by
    intro W' hW' j hj
    rw [List.size_toArray, rowC_length hq] at hj
    have hBB : Blk W' b t (rndC rs ++ tail).toArray := hW'.trans hB
    have hlt : 1 + rs.length * 6 + j < (rndC rs ++ tail).length := by simp only [List.length_append]; omega
    have hx := List.getElem?_eq_getElem hlt
    exact ⟨by rw [hBB.cell _ _ (by rw [List.getElem?_toArray]; exact hx)]; rfl, hBB.frozen _⟩
  have hres := rnd_snoc tail h hq h4
  have HRES : Hid ((setFrom (rndC rs ++ tail) (1 + rs.length * 6) (rowC q)).set 0 (iv ((rs.length : Int) + 1)) = rndC (rs ++ [q]) ++ tail) := hres
  clear hres
  generalize rndC (rs ++ [q]) ++ tail = es at *
  generalize rndC rs ++ tail = cs at *
  have hc4 : (rs.length : Int) < 4 := by omega
  generalize rs.length = c at *
  go_enter Tryd.func24, Tryd.ntmps24
  go_wp2_with fail
  generalize w.alloc (.cells (rowC q).toArray 49) = W at *
  have hk0 : W.drew.cell? ⟨b, 0, none⟩ = W.cell? ⟨b, 0, none⟩ := rfl
  have hkb : W.drew.heap[w.heap.size]? = W.heap[w.heap.size]? := rfl
  have hne : Nonempty (LatR b w.heap.size W) := ⟨⟨W, rfl, rfl⟩⟩
  have k0 : ∀ u : LatR b w.heap.size W, u.val.cell? ⟨b, 0, none⟩ = some (iv c) := fun u => u.cnt.trans hcell
  have ld1 : ∀ u : LatR b w.heap.size W, (Instr.loadAt 49 (.pointer (some ⟨w.heap.size, 0, none⟩))).run Tryd.prog u.val = .ok (.agg (rowC q).toArray) u.val := fun u => by
    have hG : Blk u.val w.heap.size 49 (rowC q).toArray := u.box.trans G
    exact run_loadAt_mid u.val w.heap.size 0 49 (rowC q) _ (rng hG _ (fun j v hv => by rw [Nat.zero_add, List.getElem?_toArray]; exact hv)) Tryd.underlying49 rfl hsz6
  refine text_begin (S := fun w' => ∃ u : LatR b w.heap.size W, w' = u.val) (by kernel_rfl) ?_
  refine sgr [(0, 2)] 8 (by kernel_rfl) ⟨⟨_, hk0, hkb⟩, rfl⟩ ?_
  simp only [pkE]
  repeat go_big_quiet_step (fail)
  refine wpQuiet_nil ?_
  refine qta 2 (some 6) (.pointer (some ⟨b, 0, none⟩)) 7 (by kernel_rfl) (fun u _ => by kernel_rfl) ⟨⟨_, hk0, hkb⟩, rfl⟩ ?_
  simp only [Act.put, pjE]
  refine sgr [(3, 2)] 5 (by kernel_rfl) ⟨⟨_, hk0, hkb⟩, rfl⟩ ?_
  simp only [pkE]
  repeat go_big_quiet_step (fail)
  refine wpQuiet_nil ?_
  refine qta 5 (some 9) (.agg (rowC q).toArray) 4 (by kernel_rfl) (fun u hu => ?_) ⟨⟨_, hk0, hkb⟩, rfl⟩ ?_
  · obtain ⟨u, rfl⟩ := hu
    show some (((Instr.loadAt 49 (.pointer (some ⟨w.heap.size, 0, none⟩))) >>= fun x => pure (Next.value x) : Sem Next).run Tryd.prog u.val) = _
    rw [Sem.run_bind, ld1 u]
    rfl
  simp only [Act.put, pjE]
  refine qta 6 (some 10) (.pointer (some ⟨b, 0, none⟩)) 3 (by kernel_rfl) (fun u _ => by kernel_rfl) ⟨⟨_, hk0, hkb⟩, rfl⟩ ?_
  simp only [Act.put, pjE]
  refine sgr [(7, 2)] 1 (by kernel_rfl) ⟨⟨_, hk0, hkb⟩, rfl⟩ ?_
  simp only [pkE]
  repeat go_big_quiet_step (fail)
  refine wpQuiet_nil ?_
  refine ona 9 0 rfl (by kernel_rfl) ?_
  refine st_g (by kernel_rfl) 49 _ _ rfl b (1 + c * 6) (rowC q).toArray rfl rfl (hthere _ rfl) hsz6 hone ?_
  have D : Blk (W.drew.setCells b (1 + c * 6) (rowC q)) b t (setFrom cs (1 + c * 6) (rowC q)).toArray := blk_setCells b t (rowC q) (1 + c * 6) W.drew cs hB
  have U : Out [b] w (W.drew.setCells b (1 + c * 6) (rowC q)) := (Out.of_below hb0).trans ((Out.of_below ((Below.refl _ _).drew)).trans (out_setCells b (rowC q) (1 + c * 6) W.drew))
  have hgb : w.heap.size ≠ b := by omega
  have hkb2 : (W.drew.setCells b (1 + c * 6) (rowC q)).heap[w.heap.size]? = W.heap[w.heap.size]? := ((out_setCells b (rowC q) (1 + c * 6) W.drew).block _ G.lt (by simp only [List.mem_singleton]; exact hgb))
  have hk2 : (W.drew.setCells b (1 + c * 6) (rowC q)).cell? ⟨b, 0, none⟩ = W.cell? ⟨b, 0, none⟩ := World.cell?_setCells_out b (rowC q) (1 + c * 6) W.drew ⟨b, 0, none⟩ (fun _ _ => Or.inl (by show 0 < 1 + c * 6; omega))
  refine ThenGo.to ⟨⟨⟨_, hk2, hkb2⟩, rfl⟩, ?_⟩
  refine text_end (by kernel_rfl) ?_
  have hcell2 := hk2.trans hcell
  have hfr := D.frozen 0
  have F := D.set 0 (iv ((c : Int) + 1))
  rw [List.setIfInBounds_toArray, HRES.out] at F
  have U2 := U.set (b := b) (j := 0) (u := iv ((c : Int) + 1)) (by simp)
  have HF : Hid (Blk _ b t es.toArray ∧ Out [b] w _) := And.intro F U2
  clear F U2 D U hk2 hkb2 hkb hk0 k0 ld1 hne hthere HRES
  generalize W.drew.setCells b (1 + c * 6) (rowC q) = X at *
  go_wp2
  go_end0
  exact ⟨rfl, HF.out⟩

end Go.Proofs.YtkklhbofeghnbaaDoor

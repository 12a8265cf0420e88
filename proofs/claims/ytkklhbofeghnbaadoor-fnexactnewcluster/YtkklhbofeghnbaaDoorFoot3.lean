/- A list of elements to which one more is appended. No condition. -/
import Derived.Test.YtkklhbofeghnbaaDoorJA
import Derived.Maps.AppendAt
namespace Go.Proofs.YtkklhbofeghnbaaDoor
open Go.RowKit
set_option linter.unusedVariables false
set_option linter.unusedSimpArgs false

section
variable {P : Type} {K : Kind P} {w w' : World} {v v' : Value} {ps : List P} {p : P} {B : Nat}
theorem Kind.row_snoc (ps : List P) (p : P) : K.row (ps ++ [p]) = K.row ps ++ K.cells p := by simp [Kind.row]
theorem Kind.Own.snoc (h : K.Own w v ps) (hnd : (K.fp v ps).Nodup) (hlo : ∀ k ∈ K.fp v ps, B ≤ k) (hp : K.own w p) (hpn : (K.foot p).Nodup) (hpd : ∀ k ∈ K.foot p, k ∉ K.fp v ps) (hplo : ∀ k ∈ K.foot p, B ≤ k) (hB : B ≤ w.heap.size)
    (hrow : w'.ownsRow 0 K.ty K.size v' (ps.length + 1) (K.row ps ++ K.cells p)) (hg : w.grownBy w' v.ownBlock) (hat : v'.ownBlock = v.ownBlock ∨ v'.ownBlock = some w.heap.size) :
    K.Own w' v' (ps ++ [p]) ∧ (K.fp v' (ps ++ [p])).Nodup ∧ (∀ k ∈ K.fp v' (ps ++ [p]), B ≤ k) ∧ Out (blk v) w w' := by
  have hO : Out (blk v) w w' := Out.of_grown hg
  have hnd2 := List.nodup_append.1 hnd
  have hlt := h.lt
  have hplt := K.own_lt hp
  have hfe : (ps ++ [p]).flatMap K.foot = ps.flatMap K.foot ++ K.foot p := by simp
  refine ⟨⟨?_, ?_⟩, ?_, ?_, hO⟩
  · rw [List.length_append, List.length_singleton, Kind.row_snoc]
    exact hrow
  · intro q hq
    rcases List.mem_append.1 hq with hq | hq
    · exact K.own_out (h.2 q hq) hO (fun k hk hkb => hnd2.2.2 k hkb k (List.mem_flatMap.2 ⟨q, hq, hk⟩) rfl)
    · simp only [List.mem_singleton] at hq
      subst hq
      exact K.own_out hp hO (fun k hk hkb => hpd k hk (by simp only [Kind.fp, List.mem_append]; exact Or.inl hkb))
  · unfold Kind.fp
    rw [hfe]
    have hrest : (ps.flatMap K.foot ++ K.foot p).Nodup := List.nodup_append.2 ⟨hnd2.2.1, hpn, fun a ha b hb e => hpd b hb (by simp only [Kind.fp, List.mem_append]; exact Or.inr (e ▸ ha))⟩
    rcases hat with hat | hat
    · have e : blk v' = blk v := by unfold blk; rw [hat]
      rw [e]
      refine List.nodup_append.2 ⟨hnd2.1, hrest, fun a ha b hb e => ?_⟩
      subst e
      rcases List.mem_append.1 hb with hb | hb
      · exact hnd2.2.2 a ha a hb rfl
      · exact hpd a hb (by simp only [Kind.fp, List.mem_append]; exact Or.inl ha)
    · have e : blk v' = [w.heap.size] := by unfold blk; rw [hat]; rfl
      rw [e]
      refine List.nodup_append.2 ⟨by simp, hrest, fun a ha b hb e => ?_⟩
      simp only [List.mem_singleton] at ha
      subst e ha
      rcases List.mem_append.1 hb with hb | hb
      · have := hlt _ (show w.heap.size ∈ K.fp v ps by simp only [Kind.fp, List.mem_append]; exact Or.inr hb)
        omega
      · have := hplt _ hb
        omega
  · intro k hk
    unfold Kind.fp at hk
    rw [hfe] at hk
    rcases List.mem_append.1 hk with hk | hk
    · rcases hat with hat | hat
      · exact hlo k (by simp only [Kind.fp, List.mem_append]; left; unfold blk at hk ⊢; rw [hat] at hk; exact hk)
      · unfold blk at hk
        rw [hat] at hk
        simp only [Option.toList, List.mem_singleton] at hk
        omega
    · rcases List.mem_append.1 hk with hk | hk
      · exact hlo k (by simp only [Kind.fp, List.mem_append]; exact Or.inr hk)
      · exact hplo k hk
theorem Kind.own_nil (w : World) : K.Own w (.slice none 0 0) ([] : List P) ∧ (K.fp (.slice none 0 0) ([] : List P)) = [] := ⟨⟨World.ownsRow_nil _ _ _ _, fun p hp => by simp at hp⟩, by simp [Kind.fp, blk, Value.ownBlock]⟩
end

end Go.Proofs.YtkklhbofeghnbaaDoor

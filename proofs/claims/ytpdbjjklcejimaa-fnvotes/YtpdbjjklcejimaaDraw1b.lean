/- What the draws of lists of chapter 1 tell at whatever bytes: some bytes, some list of numbers, in their bounds; nothing that was there is written into. -/
import Derived.Test.YtpdbjjklcejimaaDraw1
namespace Go.Proofs.Ytpdbjjklcejimaa
open Go.RowKit
set_option linter.unusedVariables false
set_option linter.unusedSimpArgs false

theorem getD_of_mem {P : Int → Prop} {zs : List Int} (h : ∀ x ∈ zs, P x) (h0 : P 0) : ∀ i, P (zs.getD i 0) := by
  intro i
  by_cases hi : i < zs.length
  · have := h zs[i] (List.getElem_mem hi)
    simpa [List.getD, hi] using this
  · simpa [List.getD, List.getElem?_eq_none (show zs.length ≤ i by omega)] using h0

theorem mem_of_getD {P : Int → Prop} {zs : List Int} (h : ∀ i, P (zs.getD i 0)) : ∀ x ∈ zs, P x := by
  intro x hx
  obtain ⟨j, hj, rfl⟩ := List.mem_iff_getElem.1 hx
  have := h j
  simpa [List.getD, hj] using this

theorem put2_u8 (n : Int) : ∀ x ∈ put2 n, 0 ≤ x ∧ x ≤ 255 := by
  intro x hx
  simp only [put2, List.mem_cons, List.not_mem_nil, or_false] at hx
  omega

theorem packL_mem (zs : List Int) (k : Nat) (h : zs.length ≤ 255) : ∀ x ∈ packL zs k, 0 ≤ x ∧ x ≤ 255 := by
  intro x hx
  simp only [packL, List.mem_cons, List.mem_flatMap] at hx
  rcases hx with rfl | ⟨y, _, hx⟩
  · omega
  · exact put2_u8 y x hx

theorem packL_u8 (zs : List Int) (k : Nat) (h : zs.length ≤ 255) : ∀ i, 0 ≤ (packL zs k).getD i 0 ∧ (packL zs k).getD i 0 ≤ 255 := getD_of_mem (packL_mem zs k h) (by omega)

theorem Row.take {k : IntKind} {w : World} {a : Option Addr} {zs : List Int} (h : Row k w a zs) (j : Nat) : Row k w a (zs.take j) := by
  intro i hi
  simp at hi
  obtain ⟨b, off, e1, e2, e3⟩ := h i (by omega)
  refine ⟨b, off, e1, e2, ?_⟩
  rw [e3]
  simp [List.getD, List.getElem?_take, show i < j by omega]

end Go.Proofs.Ytpdbjjklcejimaa

/- What PackNumbers of the program and of its model do at a list of int64 that can be read: the same bytes, the same code. -/
import Derived.Test.YtkklhbofeghnbaaDoorJA
namespace Go.Proofs.YtkklhbofeghnbaaDoor
open Go.RowKit
set_option linter.unusedVariables false
set_option linter.unusedSimpArgs false

theorem own_some {w : World} {base e n k : Nat} {a : Option Addr} {xs : List Value} (h : w.ownsRow base e 1 (.slice a n k) n xs) (hn : 0 < n) : ∃ g, a = some ⟨g, 0, none⟩ := by
  rcases h.2 with ⟨he, h0⟩ | ⟨g, cap, cur, he, r⟩
  · omega
  · simp only [Value.slice.injEq] at he
    exact ⟨g, he.1⟩

/-- How many, and the bytes of the first k. -/
def packL (zs : List Int) (k : Nat) : List Int := (zs.length : Int) :: (zs.take k).flatMap put2
theorem packL_succ (zs : List Int) (k : Nat) (h : k < zs.length) : packL zs (k + 1) = packL zs k ++ put2 (zs.getD k 0) := by
  have e : zs.getD k 0 = zs[k] := by simp [List.getD, h]
  rw [packL, packL, List.take_succ_eq_append_getElem h, e]
  simp only [List.flatMap_append, List.flatMap_cons, List.flatMap_nil, List.append_nil, List.cons_append]
theorem packL_length (zs : List Int) (k : Nat) (h : k ≤ zs.length) : (packL zs k).length = 1 + 2 * k := by
  induction k with
  | zero => simp [packL]
  | succ k ih =>
    rw [packL_succ zs k h, List.length_append, ih (by omega)]
    simp [put2]; omega
def packC (zs : List Int) : Int := if 40 < zs.length then 2 else if zs.all shortB then 0 else 3
def packR (zs : List Int) : List Int := if 40 < zs.length then [] else if zs.all shortB then packL zs zs.length else []
theorem pack_many {zs : List Int} (h : 40 < zs.length) : packC zs = 2 ∧ packR zs = [] := by simp [packC, packR, h]
theorem pack_ok {zs : List Int} (h : ¬ 40 < zs.length) (ha : ∀ j, j < zs.length → shortB (zs.getD j 0) = true) : packC zs = 0 ∧ packR zs = packL zs zs.length := by
  have e : zs.all shortB = true := by
    rw [List.all_eq_true]
    intro x hx
    obtain ⟨j, hj, rfl⟩ := List.mem_iff_getElem.1 hx
    have := ha j hj
    simpa [List.getD, hj] using this
  simp [packC, packR, h, e]
theorem pack_bad {zs : List Int} (h : ¬ 40 < zs.length) (j : Nat) (hj : j < zs.length) (hb : shortB (zs.getD j 0) = false) : packC zs = 3 ∧ packR zs = [] := by
  have e : zs.all shortB = false := by
    rw [List.all_eq_false]
    refine ⟨zs[j], List.getElem_mem hj, ?_⟩
    simpa [List.getD, hj] using hb
  simp [packC, packR, h, e]
theorem packR_le (zs : List Int) : (packR zs).length ≤ 81 := by
  unfold packR
  split
  · simp
  · split
    · rw [packL_length _ _ (Nat.le_refl _)]; omega
    · simp

end Go.Proofs.YtkklhbofeghnbaaDoor

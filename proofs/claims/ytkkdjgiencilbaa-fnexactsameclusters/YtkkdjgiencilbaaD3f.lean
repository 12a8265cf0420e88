/- ItemsFault: the program's function and its model answer alike, by one plain function. No condition. -/
import Derived.Test.YtkkdjgiencilbaaD2g
import Derived.Test.YtkkdjgiencilbaaD3
namespace Go.Proofs.Ytkkdjgiencilbaa
open Go.RowKit
open Go.BigFrame
set_option linter.unusedVariables false
set_option linter.unusedSimpArgs false

/-- The first of f 0, f 1 .. f (n - 1) that is not 0; else 0. -/
def firstNZ (f : Nat → Int) : Nat → Int
  | 0 => 0
  | n + 1 => if firstNZ f n = 0 then f n else firstNZ f n

theorem firstNZ_none (f : Nat → Int) : ∀ n, (∀ j, j < n → f j = 0) → firstNZ f n = 0
  | 0, _ => rfl
  | n + 1, h => by
    have := firstNZ_none f n (fun j hj => h j (by omega))
    simp only [firstNZ, this, if_true]
    exact h n (by omega)

theorem firstNZ_first (f : Nat → Int) (k : Nat) (h : ∀ j, j < k → f j = 0) (hne : f k ≠ 0) : ∀ n, k < n → firstNZ f n = f k
  | 0, hk => by omega
  | n + 1, hk => by
    by_cases e : k = n
    · subst e
      simp only [firstNZ, firstNZ_none f k h, if_true]
    · have := firstNZ_first f k h hne n (by omega)
      simp only [firstNZ, this, hne, if_false]

theorem firstNZ_zero (f : Nat → Int) : ∀ n, firstNZ f n = 0 → ∀ j, j < n → f j = 0
  | 0, _, j, hj => by omega
  | n + 1, h, j, hj => by
    simp only [firstNZ] at h
    by_cases e : firstNZ f n = 0
    · rw [if_pos e] at h
      by_cases ej : j = n
      · subst ej; exact h
      · exact firstNZ_zero f n e j (by omega)
    · rw [if_neg e] at h; exact absurd h e

def prevK (xs : List ItemD) (k : Nat) : Int := if k = 0 then 0 else (xs.getD (k - 1) itemNo).key

def itF (xs : List ItemD) (k : Nat) : Int :=
  if inW (xs.getD k itemNo).key 1 20 = false ∨ inW (xs.getD k itemNo).val (-20000) 20000 = false then 3
  else if (xs.getD k itemNo).key ≤ prevK xs k then 1 else 0

def itemsF (xs : List ItemD) : Int := if 8 < xs.length then 2 else firstNZ (itF xs) xs.length

theorem itF_ways (xs : List ItemD) (k : Nat) :
    (inW (xs.getD k itemNo).key 1 20 = false ∧ itF xs k = 3) ∨ (inW (xs.getD k itemNo).key 1 20 = true ∧ inW (xs.getD k itemNo).val (-20000) 20000 = false ∧ itF xs k = 3) ∨
    (inW (xs.getD k itemNo).key 1 20 = true ∧ inW (xs.getD k itemNo).val (-20000) 20000 = true ∧ (xs.getD k itemNo).key ≤ prevK xs k ∧ itF xs k = 1) ∨
    (inW (xs.getD k itemNo).key 1 20 = true ∧ inW (xs.getD k itemNo).val (-20000) 20000 = true ∧ ¬ (xs.getD k itemNo).key ≤ prevK xs k ∧ itF xs k = 0) := by
  unfold itF
  generalize xs.getD k itemNo = x
  generalize prevK xs k = p
  cases h1 : inW x.key 1 20 <;> cases h2 : inW x.val (-20000) 20000 <;> by_cases h3 : x.key ≤ p <;> simp [h3]

end Go.Proofs.Ytkkdjgiencilbaa

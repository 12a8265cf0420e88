/- ValueAt and ExecTxn of the program: one plain function each tells them. No condition. -/
import Derived.Test.YtjaoggkpnjkkpaaS3k
import Derived.Test.YtjaoggkpnjkkpaaQuiet1
import Derived.Test.YtjaoggkpnjkkpaaIR
namespace Go.Proofs.Ytjaoggkpnjkkpaa
open Go.RowKit Go.Maps
open Go.BigFrame
set_option linter.unusedVariables false
set_option linter.unusedSimpArgs false

def vaC (xs : List ItemD) (k : Int) : Int := if itemsF xs ≠ 0 then itemsF xs else if inW k 1 20 = false then 3 else if hasI xs k = true then 0 else 4
def vaV (xs : List ItemD) (k : Int) : Int := if vaC xs k = 0 then valI xs k else 0

theorem va_ways (xs : List ItemD) (k : Int) :
    (itemsF xs ≠ 0 ∧ vaC xs k = itemsF xs ∧ vaV xs k = 0) ∨ (itemsF xs = 0 ∧ inW k 1 20 = false ∧ vaC xs k = 3 ∧ vaV xs k = 0) ∨
    (itemsF xs = 0 ∧ inW k 1 20 = true ∧ (1 ≤ k ∧ k ≤ 20) ∧ hasI xs k = false ∧ vaC xs k = 4 ∧ vaV xs k = 0) ∨ (itemsF xs = 0 ∧ inW k 1 20 = true ∧ (1 ≤ k ∧ k ≤ 20) ∧ hasI xs k = true ∧ vaC xs k = 0 ∧ vaV xs k = valI xs k) := by
  by_cases h0 : itemsF xs = 0
  · cases h1 : inW k 1 20
    · exact Or.inr (Or.inl ⟨h0, rfl, by simp [vaC, h0, h1], by simp [vaV, vaC, h0, h1]⟩)
    · have hk : 1 ≤ k ∧ k ≤ 20 := by simpa [inW] using h1
      cases h2 : hasI xs k
      · exact Or.inr (Or.inr (Or.inl ⟨h0, rfl, hk, rfl, by simp [vaC, h0, h1, h2], by simp [vaV, vaC, h0, h1, h2]⟩))
      · exact Or.inr (Or.inr (Or.inr ⟨h0, rfl, hk, rfl, by simp [vaC, h0, h1, h2], by simp [vaV, vaC, h0, h1, h2]⟩))
  · exact Or.inl ⟨h0, by simp [vaC, h0], by simp [vaV, vaC, h0]⟩

end Go.Proofs.Ytjaoggkpnjkkpaa

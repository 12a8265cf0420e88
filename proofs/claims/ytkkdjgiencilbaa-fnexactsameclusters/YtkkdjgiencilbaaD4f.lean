/- UndoFault: the program's function and its model answer alike, by one plain function. No condition. -/
import Derived.Test.YtkkdjgiencilbaaD3f
import Derived.Test.YtkkdjgiencilbaaD4
namespace Go.Proofs.Ytkkdjgiencilbaa
open Go.RowKit
open Go.BigFrame
set_option linter.unusedVariables false
set_option linter.unusedSimpArgs false

def unF1 (x : UndoD) : Int :=
  if inW x.key 1 20 = false ∨ inW x.val (-20000) 20000 = false then 3 else if x.was = false ∧ x.val ≠ 0 then 1 else 0

def unF (xs : List UndoD) (k : Nat) : Int := unF1 (xs.getD k undoNo)

def undoF (xs : List UndoD) : Int := if 4 < xs.length then 2 else firstNZ (unF xs) xs.length

theorem unF_ways (x : UndoD) :
    (inW x.key 1 20 = false ∧ unF1 x = 3) ∨ (inW x.key 1 20 = true ∧ inW x.val (-20000) 20000 = false ∧ unF1 x = 3) ∨
    (inW x.key 1 20 = true ∧ inW x.val (-20000) 20000 = true ∧ x.was = false ∧ x.val ≠ 0 ∧ unF1 x = 1) ∨
    (inW x.key 1 20 = true ∧ inW x.val (-20000) 20000 = true ∧ x.was = false ∧ x.val = 0 ∧ unF1 x = 0) ∨
    (inW x.key 1 20 = true ∧ inW x.val (-20000) 20000 = true ∧ x.was = true ∧ unF1 x = 0) := by
  unfold unF1
  cases h1 : inW x.key 1 20 <;> cases h2 : inW x.val (-20000) 20000 <;> cases h3 : x.was <;> by_cases h4 : x.val = 0 <;> simp [h4]

end Go.Proofs.Ytkkdjgiencilbaa

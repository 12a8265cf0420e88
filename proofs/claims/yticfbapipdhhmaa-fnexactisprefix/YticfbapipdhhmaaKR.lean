/- What the helpers of the laws do with rounds, in the form of kinds. No condition. -/
import Derived.Test.YticfbapipdhhmaaK6
import Derived.Test.YticfbapipdhhmaaKT
import Derived.Test.YticfbapipdhhmaaBlk5
namespace Go.Proofs.Yticfbapipdhhmaa
open Go.RowKit
open Go.BigFrame
set_option linter.unusedVariables false
set_option linter.unusedSimpArgs false

def RoundQ.n (p : RoundQ) : Nat := p.rep.length + p.pro.length
def RoundQ.wf (p : RoundQ) : Prop := p.rep.length ≤ 9223372036854775807 ∧ p.pro.length ≤ 9223372036854775807
theorem apart_of {A B : List Nat} {m : Nat} (hA : ∀ k ∈ A, k < m) (hB : ∀ k ∈ B, m ≤ k) : ∀ a ∈ A, ∀ b ∈ B, a ≠ b := fun a ha b hb e => by
  have := hA a ha
  have := hB b hb
  omega

end Go.Proofs.Yticfbapipdhhmaa

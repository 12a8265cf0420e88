/- What the helpers of the laws do with an instance, in the form of kinds: count, compare, copy. No condition. -/
import Derived.Test.YticfbapipdhhmaaKRs
namespace Go.Proofs.Yticfbapipdhhmaa
open Go.RowKit
open Go.BigFrame
set_option linter.unusedVariables false
set_option linter.unusedSimpArgs false

def InstQ.n (p : InstQ) : Nat := (p.batch.length + nmL TxnQ.n p.batch) + (p.rounds.length + nmL RoundQ.n p.rounds) + p.dec.length
def InstQ.wf (p : InstQ) : Prop := (p.batch.length ≤ 9223372036854775807 ∧ ∀ q ∈ p.batch, TxnQ.wf q) ∧ (p.rounds.length ≤ 9223372036854775807 ∧ ∀ q ∈ p.rounds, RoundQ.wf q) ∧ p.dec.length ≤ 9223372036854775807

end Go.Proofs.Yticfbapipdhhmaa

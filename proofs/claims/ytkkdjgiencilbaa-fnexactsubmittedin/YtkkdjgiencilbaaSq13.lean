/- Small facts for the law on SubmittedIn. No condition. -/
import Derived.Test.YtkkdjgiencilbaaSs13
import Derived.Test.YtkkdjgiencilbaaKStm
import Derived.Test.YtkkdjgiencilbaaR8
namespace Go.Proofs.Ytkkdjgiencilbaa
open Go.RowKit
set_option linter.unusedVariables false
set_option linter.unusedSimpArgs false

theorem niceS {v : Value} {ps : List StepQ} {w : World} (h : stepK.Own w v ps) : ∀ p ∈ ps, NiceZ (⟨p.i, p.s, p.q, p.va, p.acts⟩ : TxnQ) := fun p hp => niceZ_own (w := w) (p := ⟨p.i, p.s, p.q, p.va, p.acts⟩) (h.2 p hp)
theorem nmStep_le (ps : List StepQ) : nmL nmStep ps ≤ 10 * (ps.length + nmL StepQ.n ps) := by
  induction ps with
  | nil => simp [nmL]
  | cons p r ih =>
    simp only [nmL, List.map_cons, List.sum_cons, List.length_cons] at ih ⊢
    simp only [nmStep, StepQ.n] at ih ⊢
    omega

end Go.Proofs.Ytkkdjgiencilbaa

/- The model's ExecTxn: the same plain function tells it. No condition. -/
import Derived.Test.YtjaoggkpnjkkpaaS3c
namespace Go.Proofs.Ytjaoggkpnjkkpaa
open Go.RowKit Go.Maps
open Go.BigFrame
set_option linter.unusedVariables false
set_option linter.unusedSimpArgs false

theorem ex_run {xs : List ItemD} {i s q : Int} {zs : List ActD} (h : itemsF xs = 0) (h2 : txnF i s q zs = 0) : exC xs i s q zs = (runA xs zs).1 ∧ exR xs i s q zs = runR xs zs ∧ exV xs i s q zs = runV xs zs := by
  have e : exC xs i s q zs = (runA xs zs).1 := by simp [exC, h, h2]
  exact ⟨e, by unfold exR runR; rw [e], by unfold exV runV; rw [e]⟩

end Go.Proofs.Ytjaoggkpnjkkpaa

/- A transaction that came in, opened. No condition. -/
import Derived.Test.YtlkpdgjnhkjpjaaGreatDoorSYX
namespace Go.Proofs.YtlkpdgjnhkjpjaaGreatDoor
open Go.RowKit Go.Deep Go.ChangeShapes Go.WideShapes
set_option linter.unusedVariables false
set_option maxRecDepth 100000
set_option linter.unusedSimpArgs false
set_option maxRecDepth 100000

section
variable {H : Type} {enc : TypeId × Value → H} {w : World} {base : Nat} {spare : Nat → Bool} {held : Bool}

theorem open_txnV {r : Reach} {b0 : Nat} {v : Value} {d : DataW H} {p : List MemPlace} (hv : Value.okWide Tryz.prog w r b0 76 v) (h : DataW.Trod enc Tryz.prog w base spare held 76 v d p) :
    ∃ q : TxnQ, v = .agg #[.int .i64 q.i, .int .i64 q.s, .int .i64 q.q, q.va] ∧ txnK.rd w q ∧ TxnQ.wf q := by
  obtain ⟨cs, rfl, hsz⟩ := okWide_struct Tryz.underlying76 hv
  obtain ⟨fuel, hf⟩ := h
  obtain ⟨q, e, h1, h2⟩ := q2u _ _ _ hf
  refine ⟨q, ?_, h1, h2⟩
  congr 1
  apply Array.ext'
  have e' : cs.toList = txnK.cells q := by simpa [Value.cells] using e
  exact e'


end

end Go.Proofs.YtlkpdgjnhkjpjaaGreatDoor

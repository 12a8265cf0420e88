/- A cluster that came in, opened. No condition. -/
import Derived.Test.YtkkdjgiencilbaaOpen7
import Derived.Test.YtkkdjgiencilbaaOpen11
import Derived.Test.YtkkdjgiencilbaaC12
namespace Go.Proofs.Ytkkdjgiencilbaa
open Go.RowKit Go.Deep Go.ChangeShapes Go.WideShapes
set_option linter.unusedVariables false
set_option linter.unusedSimpArgs false
set_option maxRecDepth 100000

section
variable {H : Type} {enc : TypeId × Value → H} {w : World} {base : Nat} {spare : Nat → Bool} {held : Bool}

theorem open_nodeK (n : Nat) (l : List Value) (y : DataW H × List MemPlace) (h : DataW.trod enc Try.prog w base spare held n 110 l = some y) : ∃ p : NodeQ, l = nodeK.cells p ∧ nodeK.rd w p ∧ NodeQ.wf p := by
  obtain ⟨kn, sf, p, e, h1, h2⟩ := open_nodeCells h
  exact ⟨NodeQ.of kn sf p, e, h1, h2⟩
theorem open_cluV {r : Reach} {b0 : Nat} {v : Value} {d : DataW H} {p : List MemPlace} (hv : Value.okWide Try.prog w r b0 25 v) (h : DataW.Trod enc Try.prog w base spare held 25 v d p) :
    ∃ q : CluQ, v = .agg #[q.vo, q.vm] ∧ cluK.rd w q ∧ q.wf := by
  obtain ⟨cs, rfl, hsz⟩ := okWide_struct Try.underlying25 hv
  obtain ⟨fuel, hf⟩ := h
  obtain ⟨y0, y1, n, _, hl, h0, h1⟩ := trod_struct2 Try.underlying25 hf
  rw [show Try.prog.cellsOf 25 = 2 by kernel_rfl] at hl
  have e0 : Try.prog.cellsOf 22 = 1 := by kernel_rfl
  have e1 : Try.prog.cellsOf 23 = 1 := by kernel_rfl
  obtain ⟨l⟩ := cs
  match l, hl with
  | [c0, c1], _ =>
    simp only [Value.cells, e0, e1, List.drop_zero, List.drop_succ_cons, List.take_succ_cons, List.take_zero] at h0 h1
    obtain ⟨v0, ps, f0, r0, l0, w0⟩ := open_kind instK InstQ.wf Try.underlying22 (by kernel_rfl) (by decide) open_instK h0
    obtain ⟨v1, qs, f1, r1, l1, w1⟩ := open_kind nodeK NodeQ.wf Try.underlying23 (by kernel_rfl) (by decide) open_nodeK h1
    simp only [List.cons.injEq, and_true] at f0 f1
    subst f0 f1
    exact ⟨⟨c0, ps, c1, qs⟩, rfl, ⟨r0, r1⟩, ⟨l0, w0⟩, ⟨l1, w1⟩⟩

end

end Go.Proofs.Ytkkdjgiencilbaa

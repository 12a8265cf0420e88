/- A list of instances that came in, opened. No condition. -/
import Derived.Test.YtkkdjgiencilbaaOpen6
namespace Go.Proofs.Ytkkdjgiencilbaa
open Go.RowKit Go.Deep Go.ChangeShapes Go.WideShapes
set_option linter.unusedVariables false
set_option maxRecDepth 100000
set_option linter.unusedSimpArgs false

section
variable {H : Type} {enc : TypeId × Value → H} {w : World} {base : Nat} {spare : Nat → Bool} {held : Bool}

theorem open_instK (n : Nat) (l : List Value) (y : DataW H × List MemPlace) (h : DataW.trod enc Try.prog w base spare held n 103 l = some y) : ∃ p : InstQ, l = instK.cells p ∧ instK.rd w p ∧ InstQ.wf p := by
  obtain ⟨p, e, h1, h2⟩ := open_instCells h
  exact ⟨p, e, h1, h2⟩
theorem open_instsV {r : Reach} {b0 : Nat} {v : Value} {d : DataW H} {p : List MemPlace} (hv : Value.okWide Try.prog w r b0 22 v) (h : DataW.Trod enc Try.prog w base spare held 22 v d p) :
    ∃ ps : List InstQ, instK.At w v ps ∧ ps.length ≤ 9223372036854775807 ∧ ∀ p ∈ ps, InstQ.wf p := by
  obtain ⟨a0, len0, cap0, rfl⟩ := okWide_slice Try.underlying22 hv
  obtain ⟨fuel, hf⟩ := h
  obtain ⟨v, ps, e, h1, h2, h3⟩ := open_kind instK InstQ.wf Try.underlying22 (by kernel_rfl) (by decide) open_instK hf
  simp [Value.cells] at e
  rw [← e] at h1
  exact ⟨ps, h1, h2, h3⟩

end

end Go.Proofs.Ytkkdjgiencilbaa

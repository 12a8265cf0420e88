/- A node that came in, opened. No condition. -/
import Derived.Test.YtkkdjgiencilbaaOpen9
namespace Go.Proofs.Ytkkdjgiencilbaa
open Go.RowKit Go.Deep Go.ChangeShapes Go.WideShapes
set_option linter.unusedVariables false
set_option maxRecDepth 100000
set_option linter.unusedSimpArgs false

section
variable {H : Type} {enc : TypeId × Value → H} {w : World} {base : Nat} {spare : Nat → Bool} {held : Bool}

set_option maxRecDepth 100000 in
theorem open_nodeCells {fuel : Nat} {cs : List Value} {x : DataW H × List MemPlace} (h : DataW.trod enc Try.prog w base spare held fuel 110 cs = some x) :
    ∃ (kn sf : Int) (p : RepQ), cs = [.int .i64 kn, .int .i64 sf, p.vd, p.vb, p.vt, p.vu, p.vn] ∧ repK.rd w p ∧ p.wf := by
  obtain ⟨y0, y1, y2, n, _, hl, h0, h1, h2⟩ := trod_struct3 Try.underlying110 h
  rw [show Try.prog.cellsOf 110 = 7 by kernel_rfl] at hl
  have e : Try.prog.cellsOf 2 = 1 := by kernel_rfl
  have e' : Try.prog.cellsOf 108 = 5 := by kernel_rfl
  match cs, hl with
  | [c0, c1, c2, c3, c4, c5, c6], _ =>
    simp only [e, e', List.drop_zero, List.drop_succ_cons, List.take_succ_cons, List.take_zero] at h0 h1 h2
    obtain ⟨k, e0, _⟩ := DataW.trod_int Try.underlying2 h0
    obtain ⟨s, e1, _⟩ := DataW.trod_int Try.underlying2 h1
    obtain ⟨p, e2, r, wf⟩ := open_repCells h2
    simp only [List.cons.injEq, and_true] at e0 e1 e2
    exact ⟨k, s, p, by rw [e0, e1, e2.1, e2.2.1, e2.2.2.1, e2.2.2.2.1, e2.2.2.2.2], r, wf⟩
theorem open_node {r : Reach} {b0 : Nat} {v : Value} {d : DataW H} {p : List MemPlace} (hv : Value.okWide Try.prog w r b0 110 v) (h : DataW.Trod enc Try.prog w base spare held 110 v d p) :
    ∃ (kn sf : Int) (q : RepQ), v = .agg #[.int .i64 kn, .int .i64 sf, q.vd, q.vb, q.vt, q.vu, q.vn] ∧ repK.rd w q ∧ q.wf := by
  obtain ⟨cs, rfl, hsz⟩ := okWide_struct Try.underlying110 hv
  obtain ⟨fuel, hf⟩ := h
  obtain ⟨kn, sf, q, e, h1, h2⟩ := open_nodeCells hf
  refine ⟨kn, sf, q, ?_, h1, h2⟩
  congr 1
  apply Array.ext'
  simpa [Value.cells] using e

end

end Go.Proofs.Ytkkdjgiencilbaa

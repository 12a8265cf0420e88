/- A step, and a list of steps, that came in, opened. No condition. -/
import Derived.Test.YtkkdjgiencilbaaOpen8
import Derived.Test.YtkkdjgiencilbaaOpenV
import Derived.Test.YtkkdjgiencilbaaKSt
namespace Go.Proofs.Ytkkdjgiencilbaa
open Go.RowKit Go.Deep Go.ChangeShapes Go.WideShapes
set_option linter.unusedVariables false
set_option linter.unusedSimpArgs false
set_option maxRecDepth 100000

section
variable {H : Type} {enc : TypeId × Value → H} {w : World} {base : Nat} {spare : Nat → Bool} {held : Bool}

theorem trod_struct5s {P : Program} {t : TypeId} {f0 f1 f2 f3 f4 : Field} {fuel : Nat} {cs : List Value} {x : DataW H × List MemPlace} (ht : P.underlying t = some (.struct #[f0, f1, f2, f3, f4])) (h : DataW.trod enc P w base spare held fuel t cs = some x) :
    ∃ y0 y1 y2 y3 y4 n, cs.length = P.cellsOf t ∧ DataW.trod enc P w base spare held n f0.type ((cs.drop f0.offset).take (P.cellsOf f0.type)) = some y0 ∧
      DataW.trod enc P w base spare held n f1.type ((cs.drop f1.offset).take (P.cellsOf f1.type)) = some y1 ∧ DataW.trod enc P w base spare held n f2.type ((cs.drop f2.offset).take (P.cellsOf f2.type)) = some y2 ∧
      DataW.trod enc P w base spare held n f3.type ((cs.drop f3.offset).take (P.cellsOf f3.type)) = some y3 ∧ DataW.trod enc P w base spare held n f4.type ((cs.drop f4.offset).take (P.cellsOf f4.type)) = some y4 := by
  obtain ⟨xs, n, _, rfl, hl, hlen, hf⟩ := DataW.trod_struct ht h
  match xs, hlen with
  | [y0, y1, y2, y3, y4], _ => exact ⟨y0, y1, y2, y3, y4, n, hl, by simpa using hf 0 f0 rfl, by simpa using hf 1 f1 rfl, by simpa using hf 2 f2 rfl, by simpa using hf 3 f3 rfl, by simpa using hf 4 f4 rfl⟩
theorem list11 {α : Type} {cs : List α} (h : cs.length = 11) : ∃ a b c d e f g i j k l, cs = [a, b, c, d, e, f, g, i, j, k, l] := by
  match cs, h with
  | [a, b, c, d, e, f, g, i, j, k, l], _ => exact ⟨a, b, c, d, e, f, g, i, j, k, l, rfl⟩

theorem open_stepK (n : Nat) (l : List Value) (y : DataW H × List MemPlace) (h : DataW.trod enc Try.prog w base spare held n 40 l = some y) : ∃ p : StepQ, l = stepK.cells p ∧ stepK.rd w p ∧ StepQ.wf p := by
  obtain ⟨y0, y1, y2, y3, y4, n, hl, h0, h1, h2, h3, h4⟩ := trod_struct5s Try.underlying40 h
  rw [show Try.prog.cellsOf 40 = 11 by kernel_rfl] at hl
  have e : Try.prog.cellsOf 2 = 1 := by kernel_rfl
  have e' : Try.prog.cellsOf 36 = 4 := by kernel_rfl
  have e2 : Try.prog.cellsOf 38 = 4 := by kernel_rfl
  obtain ⟨a, b, c, d, f, g, i, j, k, m, o, rfl⟩ := list11 hl
  simp only [e, e', e2, List.drop_zero, List.drop_succ_cons, List.take_succ_cons, List.take_zero] at h0 h1 h2 h3 h4
  obtain ⟨kd, e0, _⟩ := DataW.trod_int Try.underlying2 h0
  obtain ⟨nd, e1, _⟩ := DataW.trod_int Try.underlying2 h1
  obtain ⟨nn, e2, _⟩ := DataW.trod_int Try.underlying2 h2
  obtain ⟨p, e3, r3, w3⟩ := open_txnK _ _ _ h3
  obtain ⟨v, e4⟩ := open_vote h4
  simp only [List.cons.injEq, and_true] at e0 e1 e2
  have e3' : [d, f, g, i] = [.int .i64 p.i, .int .i64 p.s, .int .i64 p.q, p.va] := e3
  have e4' : [j, k, m, o] = [.int .i64 v.kind, .int .i64 v.round, .int .i64 v.node, .int .i64 v.value] := e4
  simp only [List.cons.injEq, and_true] at e3' e4'
  obtain ⟨rfl, rfl, rfl, rfl⟩ := e3'
  obtain ⟨rfl, rfl, rfl, rfl⟩ := e4'
  exact ⟨⟨kd, nd, nn, p.i, p.s, p.q, p.va, p.acts, v.kind, v.round, v.node, v.value⟩, by rw [e0, e1, e2]; rfl, r3, w3⟩
theorem open_stepsV {r : Reach} {b0 : Nat} {v : Value} {d : DataW H} {p : List MemPlace} (hv : Value.okWide Try.prog w r b0 52 v) (h : DataW.Trod enc Try.prog w base spare held 52 v d p) :
    ∃ ps : List StepQ, stepK.At w v ps ∧ ps.length ≤ 9223372036854775807 ∧ ∀ p ∈ ps, StepQ.wf p := by
  obtain ⟨a0, len0, cap0, rfl⟩ := okWide_slice Try.underlying52 hv
  obtain ⟨fuel, hf⟩ := h
  obtain ⟨v, ps, e, h1, h2, h3⟩ := open_kind stepK StepQ.wf Try.underlying52 (by kernel_rfl) (by decide) open_stepK hf
  simp [Value.cells] at e
  rw [← e] at h1
  exact ⟨ps, h1, h2, h3⟩
theorem open_stepV {r : Reach} {b0 : Nat} {v : Value} {d : DataW H} {p : List MemPlace} (hv : Value.okWide Try.prog w r b0 40 v) (h : DataW.Trod enc Try.prog w base spare held 40 v d p) :
    ∃ q : StepQ, v = .agg #[.int .i64 q.kd, .int .i64 q.nd, .int .i64 q.nn, .int .i64 q.i, .int .i64 q.s, .int .i64 q.q, q.va, .int .i64 q.vk, .int .i64 q.vr, .int .i64 q.vn, .int .i64 q.vv] ∧ stepK.rd w q ∧ StepQ.wf q := by
  obtain ⟨cs, rfl, hsz⟩ := okWide_struct Try.underlying40 hv
  obtain ⟨fuel, hf⟩ := h
  obtain ⟨q, e, h1, h2⟩ := open_stepK _ _ _ hf
  refine ⟨q, ?_, h1, h2⟩
  congr 1
  apply Array.ext'
  have e' : cs.toList = stepK.cells q := by simpa [Value.cells] using e
  exact e'

end

end Go.Proofs.Ytkkdjgiencilbaa

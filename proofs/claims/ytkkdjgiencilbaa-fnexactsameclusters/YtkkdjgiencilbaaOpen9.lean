/- A replica that came in, opened. No condition. -/
import Derived.Test.YtkkdjgiencilbaaOpen2
import Derived.Test.YtkkdjgiencilbaaOpen3
import Derived.Test.YtkkdjgiencilbaaOpen6
import Derived.Test.YtkkdjgiencilbaaK9r
namespace Go.Proofs.Ytkkdjgiencilbaa
open Go.RowKit Go.Deep Go.ChangeShapes Go.WideShapes
set_option linter.unusedVariables false
set_option maxRecDepth 100000
set_option linter.unusedSimpArgs false

section
variable {H : Type} {enc : TypeId × Value → H} {w : World} {base : Nat} {spare : Nat → Bool} {held : Bool}

theorem trod_struct5 {P : Program} {t : TypeId} {f0 f1 f2 f3 f4 : Field} {fuel : Nat} {cs : List Value} {x : DataW H × List MemPlace} (ht : P.underlying t = some (.struct #[f0, f1, f2, f3, f4])) (h : DataW.trod enc P w base spare held fuel t cs = some x) :
    ∃ y0 y1 y2 y3 y4 n, cs.length = P.cellsOf t ∧ DataW.trod enc P w base spare held n f0.type ((cs.drop f0.offset).take (P.cellsOf f0.type)) = some y0 ∧
      DataW.trod enc P w base spare held n f1.type ((cs.drop f1.offset).take (P.cellsOf f1.type)) = some y1 ∧ DataW.trod enc P w base spare held n f2.type ((cs.drop f2.offset).take (P.cellsOf f2.type)) = some y2 ∧
      DataW.trod enc P w base spare held n f3.type ((cs.drop f3.offset).take (P.cellsOf f3.type)) = some y3 ∧ DataW.trod enc P w base spare held n f4.type ((cs.drop f4.offset).take (P.cellsOf f4.type)) = some y4 := by
  obtain ⟨xs, n, _, rfl, hl, hlen, hf⟩ := DataW.trod_struct ht h
  match xs, hlen with
  | [y0, y1, y2, y3, y4], _ => exact ⟨y0, y1, y2, y3, y4, n, hl, by simpa using hf 0 f0 rfl, by simpa using hf 1 f1 rfl, by simpa using hf 2 f2 rfl, by simpa using hf 3 f3 rfl, by simpa using hf 4 f4 rfl⟩


set_option maxRecDepth 100000 in
theorem open_item {fuel : Nat} {cs : List Value} {x : DataW H × List MemPlace} (h : DataW.trod enc Try.prog w base spare held fuel 175 cs = some x) : ∃ z : ItemD, cs = z.cells := by
  obtain ⟨y0, y1, n, _, hl, h0, h1⟩ := trod_struct2 Try.underlying175 h
  rw [show Try.prog.cellsOf 175 = 2 by kernel_rfl] at hl
  have e : Try.prog.cellsOf 2 = 1 := by kernel_rfl
  match cs, hl with
  | [c0, c1], _ =>
    simp only [e, List.drop_zero, List.drop_succ_cons, List.take_succ_cons, List.take_zero] at h0 h1
    obtain ⟨k, e0, _⟩ := DataW.trod_int Try.underlying2 h0
    obtain ⟨y, e1, _⟩ := DataW.trod_int Try.underlying2 h1
    simp only [List.cons.injEq, and_true] at e0 e1
    exact ⟨⟨k, y⟩, by rw [e0, e1]; rfl⟩

set_option maxRecDepth 100000 in
theorem open_undo {fuel : Nat} {cs : List Value} {x : DataW H × List MemPlace} (h : DataW.trod enc Try.prog w base spare held fuel 179 cs = some x) : ∃ z : UndoD, cs = z.cells := by
  obtain ⟨y0, y1, y2, n, _, hl, h0, h1, h2⟩ := trod_struct3 Try.underlying179 h
  rw [show Try.prog.cellsOf 179 = 3 by kernel_rfl] at hl
  have e : Try.prog.cellsOf 2 = 1 := by kernel_rfl
  have e' : Try.prog.cellsOf 4 = 1 := by kernel_rfl
  match cs, hl with
  | [c0, c1, c2], _ =>
    simp only [e, e', List.drop_zero, List.drop_succ_cons, List.take_succ_cons, List.take_zero] at h0 h1 h2
    obtain ⟨k, e0, _⟩ := DataW.trod_int Try.underlying2 h0
    obtain ⟨y, e1, _⟩ := DataW.trod_bool Try.underlying4 h1
    obtain ⟨v, e2, _⟩ := DataW.trod_int Try.underlying2 h2
    simp only [List.cons.injEq, and_true] at e0 e1 e2
    exact ⟨⟨k, y, v⟩, by rw [e0, e1, e2]; rfl⟩

theorem open_itemK (n : Nat) (l : List Value) (y : DataW H × List MemPlace) (h : DataW.trod enc Try.prog w base spare held n 175 l = some y) : ∃ p : ItemD, l = itemK.cells p ∧ itemK.rd w p ∧ True := by
  obtain ⟨z, e⟩ := open_item h
  exact ⟨z, e, trivial, trivial⟩
theorem open_itemsK {fuel : Nat} {cs : List Value} {x : DataW H × List MemPlace} (h : DataW.trod enc Try.prog w base spare held fuel 105 cs = some x) :
    ∃ (v : Value) (zs : List ItemD), cs = [v] ∧ itemK.At w v zs ∧ zs.length ≤ 9223372036854775807 := by
  obtain ⟨v, ps, h1, h2, h3, _⟩ := open_kind itemK (fun _ => True) Try.underlying105 (by kernel_rfl) (by decide) open_itemK h
  exact ⟨v, ps, h1, h2, h3⟩
theorem open_undoK (n : Nat) (l : List Value) (y : DataW H × List MemPlace) (h : DataW.trod enc Try.prog w base spare held n 179 l = some y) : ∃ p : UndoD, l = undoK.cells p ∧ undoK.rd w p ∧ True := by
  obtain ⟨z, e⟩ := open_undo h
  exact ⟨z, e, trivial, trivial⟩
theorem open_undosK (n : Nat) (l : List Value) (y : DataW H × List MemPlace) (h : DataW.trod enc Try.prog w base spare held n 172 l = some y) : ∃ p : USQ, l = ussK.cells p ∧ ussK.rd w p ∧ USQ.wf p := by
  obtain ⟨v, ps, h1, h2, h3, _⟩ := open_kind undoK (fun _ => True) Try.underlying172 (by kernel_rfl) (by decide) open_undoK h
  exact ⟨⟨v, ps⟩, h1, h2, h3⟩
theorem open_ussK {fuel : Nat} {cs : List Value} {x : DataW H × List MemPlace} (h : DataW.trod enc Try.prog w base spare held fuel 106 cs = some x) :
    ∃ (v : Value) (ps : List USQ), cs = [v] ∧ ussK.At w v ps ∧ ps.length ≤ 9223372036854775807 ∧ ∀ p ∈ ps, USQ.wf p :=
  open_kind ussK USQ.wf Try.underlying106 (by kernel_rfl) (by decide) open_undosK h
theorem open_repCells {fuel : Nat} {cs : List Value} {x : DataW H × List MemPlace} (h : DataW.trod enc Try.prog w base spare held fuel 108 cs = some x) :
    ∃ p : RepQ, cs = [p.vd, p.vb, p.vt, p.vu, p.vn] ∧ repK.rd w p ∧ p.wf := by
  obtain ⟨y0, y1, y2, y3, y4, n, hl, h0, h1, h2, h3, h4⟩ := trod_struct5 Try.underlying108 h
  rw [show Try.prog.cellsOf 108 = 5 by kernel_rfl] at hl
  have e : Try.prog.cellsOf 99 = 1 := by kernel_rfl
  have e' : Try.prog.cellsOf 105 = 1 := by kernel_rfl
  have e2 : Try.prog.cellsOf 106 = 1 := by kernel_rfl
  match cs, hl with
  | [c0, c1, c2, c3, c4], _ =>
    simp only [e, e', e2, List.drop_zero, List.drop_succ_cons, List.take_succ_cons, List.take_zero] at h0 h1 h2 h3 h4
    obtain ⟨v0, z0, e0, a0, l0, w0⟩ := open_txnsK h0
    obtain ⟨v1, z1, e1, a1, l1⟩ := open_itemsK h1
    obtain ⟨v2, z2, e2, a2, l2, w2⟩ := open_txnsK h2
    obtain ⟨v3, z3, e3, a3, l3, w3⟩ := open_ussK h3
    obtain ⟨v4, z4, e4, a4, l4⟩ := open_itemsK h4
    simp only [List.cons.injEq, and_true] at e0 e1 e2 e3 e4
    exact ⟨⟨v0, z0, v1, z1, v2, z2, v3, z3, v4, z4⟩, by rw [e0, e1, e2, e3, e4], ⟨a0, a1, a2, a3, a4⟩, ⟨⟨l0, w0⟩, l1, ⟨l2, w2⟩, ⟨l3, w3⟩, l4⟩⟩
theorem open_rep {r : Reach} {b0 : Nat} {v : Value} {d : DataW H} {p : List MemPlace} (hv : Value.okWide Try.prog w r b0 108 v) (h : DataW.Trod enc Try.prog w base spare held 108 v d p) :
    ∃ q : RepQ, v = .agg #[q.vd, q.vb, q.vt, q.vu, q.vn] ∧ repK.rd w q ∧ q.wf := by
  obtain ⟨cs, rfl, hsz⟩ := okWide_struct Try.underlying108 hv
  obtain ⟨fuel, hf⟩ := h
  obtain ⟨q, e, h1, h2⟩ := open_repCells hf
  refine ⟨q, ?_, h1, h2⟩
  congr 1
  apply Array.ext'
  simpa [Value.cells] using e

end

end Go.Proofs.Ytkkdjgiencilbaa

/- Texts that stand together: data, memory, helpers. No condition. -/
import Derived.Test.YtkkdjgiencilbaaOpen2
import Derived.Test.YtkkdjgiencilbaaOpen3
import Derived.Test.YtkkdjgiencilbaaKI
import Derived.Test.YtkkdjgiencilbaaK9r
import Derived.Test.YtkkdjgiencilbaaJC
namespace Go.Proofs.Ytkkdjgiencilbaa
open Go.RowKit Go.Deep Go.ChangeShapes Go.WideShapes
set_option linter.unusedVariables false
set_option maxRecDepth 100000
set_option linter.unusedSimpArgs false

section
variable {H : Type} {enc : TypeId × Value → H} {w : World} {base : Nat} {spare : Nat → Bool} {held : Bool}

/-- A slice of whatever elements that are opened one by one. -/
theorem open_kind {P : Type} (K : Kind P) (q : P → Prop) {t e : TypeId} {fuel : Nat} {cs : List Value} {x : DataW H × List MemPlace} (ht : Try.prog.underlying t = some (.slice e)) (hc : Try.prog.cellsOf e = K.size) (hc0 : 0 < K.size)
    (hel : ∀ (n : Nat) (l : List Value) y, DataW.trod enc Try.prog w base spare held n e l = some y → ∃ p : P, l = K.cells p ∧ K.rd w p ∧ q p) (h : DataW.trod enc Try.prog w base spare held fuel t cs = some x) :
    ∃ (v : Value) (ps : List P), cs = [v] ∧ K.At w v ps ∧ ps.length ≤ 9223372036854775807 ∧ ∀ p ∈ ps, q p := by
  obtain ⟨a, cap, n, css, rfl, hl, hL, hcs⟩ := open_row ht hc hc0 h
  obtain ⟨ps, rfl, hq⟩ := list_pre2 K.cells (fun p => K.rd w p ∧ q p) css (fun l hl => by
    obtain ⟨_, y, hy⟩ := hcs l hl
    obtain ⟨p, h1, h2, h3⟩ := hel n l y hy
    exact ⟨p, h1, h2, h3⟩)
  rw [← List.flatMap_def] at hL
  refine ⟨.slice a (ps.map K.cells).length cap, ps, rfl, ⟨a, cap, by rw [List.length_map], hL, fun p hp => (hq p hp).1⟩, by simpa using hl, fun p hp => (hq p hp).2⟩

theorem open_i64 (n : Nat) (l : List Value) (y : DataW H × List MemPlace) (h : DataW.trod enc Try.prog w base spare held n 2 l = some y) : ∃ p : Int, l = intK.cells p ∧ intK.rd w p ∧ True := by
  obtain ⟨k, e, _⟩ := DataW.trod_int Try.underlying2 h
  exact ⟨k, e, trivial, trivial⟩
theorem open_intsK {fuel : Nat} {cs : List Value} {x : DataW H × List MemPlace} (h : DataW.trod enc Try.prog w base spare held fuel 101 cs = some x) :
    ∃ (v : Value) (zs : List Int), cs = [v] ∧ intK.At w v zs ∧ zs.length ≤ 9223372036854775807 := by
  obtain ⟨v, ps, h1, h2, h3, _⟩ := open_kind intK (fun _ => True) Try.underlying101 (by kernel_rfl) (by decide) open_i64 h
  exact ⟨v, ps, h1, h2, h3⟩
theorem open_txnK (n : Nat) (l : List Value) (y : DataW H × List MemPlace) (h : DataW.trod enc Try.prog w base spare held n 36 l = some y) : ∃ p : TxnQ, l = txnK.cells p ∧ txnK.rd w p ∧ TxnQ.wf p := by
  obtain ⟨i, s, q, a, cap, zs, e, hz, hA⟩ := open_txnCells h
  exact ⟨⟨i, s, q, .slice a zs.length cap, zs⟩, e, actK_mk hA, hz⟩
theorem open_txnsK {fuel : Nat} {cs : List Value} {x : DataW H × List MemPlace} (h : DataW.trod enc Try.prog w base spare held fuel 99 cs = some x) :
    ∃ (v : Value) (ps : List TxnQ), cs = [v] ∧ txnK.At w v ps ∧ ps.length ≤ 9223372036854775807 ∧ ∀ p ∈ ps, TxnQ.wf p :=
  open_kind txnK TxnQ.wf Try.underlying99 (by kernel_rfl) (by decide) open_txnK h
theorem open_roundK (n : Nat) (l : List Value) (y : DataW H × List MemPlace) (h : DataW.trod enc Try.prog w base spare held n 159 l = some y) : ∃ p : RoundQ, l = roundK.cells p ∧ roundK.rd w p ∧ RoundQ.wf p := by
  obtain ⟨y0, y1, n, _, hl, h0, h1⟩ := trod_struct2 Try.underlying159 h
  rw [show Try.prog.cellsOf 159 = 2 by kernel_rfl] at hl
  have e : Try.prog.cellsOf 101 = 1 := by kernel_rfl
  match l, hl with
  | [c0, c1], _ =>
    simp only [e, List.drop_zero, List.drop_succ_cons, List.take_succ_cons, List.take_zero] at h0 h1
    obtain ⟨v0, z0, e0, a0, l0⟩ := open_intsK h0
    obtain ⟨v1, z1, e1, a1, l1⟩ := open_intsK h1
    simp only [List.cons.injEq, and_true] at e0 e1
    exact ⟨⟨v0, z0, v1, z1⟩, by rw [e0, e1]; rfl, ⟨a0, a1⟩, ⟨l0, l1⟩⟩
theorem open_roundsK {fuel : Nat} {cs : List Value} {x : DataW H × List MemPlace} (h : DataW.trod enc Try.prog w base spare held fuel 100 cs = some x) :
    ∃ (v : Value) (ps : List RoundQ), cs = [v] ∧ roundK.At w v ps ∧ ps.length ≤ 9223372036854775807 ∧ ∀ p ∈ ps, RoundQ.wf p :=
  open_kind roundK RoundQ.wf Try.underlying100 (by kernel_rfl) (by decide) open_roundK h
theorem open_instCells {fuel : Nat} {cs : List Value} {x : DataW H × List MemPlace} (h : DataW.trod enc Try.prog w base spare held fuel 103 cs = some x) :
    ∃ p : InstQ, cs = [.bool p.has, p.vb, p.vr, p.vd] ∧ instK.rd w p ∧ p.wf := by
  obtain ⟨y0, y1, y2, y3, n, _, hl, h0, h1, h2, h3⟩ := Go.Joins.trod_struct4 Try.underlying103 h
  rw [show Try.prog.cellsOf 103 = 4 by kernel_rfl] at hl
  have e : Try.prog.cellsOf 4 = 1 := by kernel_rfl
  have e' : Try.prog.cellsOf 99 = 1 := by kernel_rfl
  have e2 : Try.prog.cellsOf 100 = 1 := by kernel_rfl
  have e3 : Try.prog.cellsOf 101 = 1 := by kernel_rfl
  match cs, hl with
  | [c0, c1, c2, c3], _ =>
    simp only [e, e', e2, e3, List.drop_zero, List.drop_succ_cons, List.take_succ_cons, List.take_zero] at h0 h1 h2 h3
    obtain ⟨k, e0, _⟩ := DataW.trod_bool Try.underlying4 h0
    obtain ⟨v1, z1, e1, a1, l1, w1⟩ := open_txnsK h1
    obtain ⟨v2, z2, e2, a2, l2, w2⟩ := open_roundsK h2
    obtain ⟨v3, z3, e3, a3, l3⟩ := open_intsK h3
    simp only [List.cons.injEq, and_true] at e0 e1 e2 e3
    exact ⟨⟨k, v1, z1, v2, z2, v3, z3⟩, by rw [e0, e1, e2, e3], ⟨a1, a2, a3⟩, ⟨⟨l1, w1⟩, ⟨l2, w2⟩, l3⟩⟩
theorem open_inst {r : Reach} {b0 : Nat} {v : Value} {d : DataW H} {p : List MemPlace} (hv : Value.okWide Try.prog w r b0 103 v) (h : DataW.Trod enc Try.prog w base spare held 103 v d p) :
    ∃ q : InstQ, v = .agg #[.bool q.has, q.vb, q.vr, q.vd] ∧ instK.rd w q ∧ q.wf := by
  obtain ⟨cs, rfl, hsz⟩ := okWide_struct Try.underlying103 hv
  obtain ⟨fuel, hf⟩ := h
  obtain ⟨q, e, h1, h2⟩ := open_instCells hf
  refine ⟨q, ?_, h1, h2⟩
  congr 1
  apply Array.ext'
  simpa [Value.cells] using e
theorem open_txnsV {r : Reach} {b0 : Nat} {v : Value} {d : DataW H} {p : List MemPlace} (hv : Value.okWide Try.prog w r b0 99 v) (h : DataW.Trod enc Try.prog w base spare held 99 v d p) :
    ∃ ps : List TxnQ, txnK.At w v ps ∧ ps.length ≤ 9223372036854775807 ∧ ∀ p ∈ ps, TxnQ.wf p := by
  obtain ⟨a0, len0, cap0, rfl⟩ := okWide_slice Try.underlying99 hv
  obtain ⟨fuel, hf⟩ := h
  obtain ⟨v, ps, e, h1, h2, h3⟩ := open_txnsK hf
  simp [Value.cells] at e
  rw [← e] at h1
  exact ⟨ps, h1, h2, h3⟩

end

end Go.Proofs.Ytkkdjgiencilbaa

namespace Go.Proofs.Ytkkdjgiencilbaa
open Go.RowKit Go.Deep Go.ChangeShapes Go.WideShapes
set_option linter.unusedVariables false
set_option maxRecDepth 100000
set_option linter.unusedSimpArgs false

section
variable {H : Type} {enc : TypeId × Value → H} {w : World} {base : Nat} {spare : Nat → Bool} {held : Bool}

theorem open_instK (n : Nat) (l : List Value) (y : DataW H × List MemPlace) (h : DataW.trod enc Try.prog w base spare held n 103 l = some y) : ∃ p : InstQ, l = instK.cells p ∧ instK.rd w p ∧ InstQ.wf p := by
  obtain ⟨p, e, h1, h2⟩ := open_instCells h
  exact ⟨p, e, h1, h2⟩
theorem open_instsV {r : Reach} {b0 : Nat} {v : Value} {d : DataW H} {p : List MemPlace} (hv : Value.okWide Try.prog w r b0 22 v) (h : DataW.Trod enc Try.prog w base spare held 22 v d p) :
    ∃ ps : List InstQ, instK.At w v ps ∧ ps.length ≤ 9223372036854775807 ∧ ∀ p ∈ ps, InstQ.wf p := by
  obtain ⟨a0, len0, cap0, rfl⟩ := okWide_slice Try.underlying22 hv
  obtain ⟨fuel, hf⟩ := h
  obtain ⟨v, ps, e, h1, h2, h3⟩ := open_kind instK InstQ.wf Try.underlying22 (by kernel_rfl) (by decide) open_instK hf
  simp [Value.cells] at e
  rw [← e] at h1
  exact ⟨ps, h1, h2, h3⟩

end

end Go.Proofs.Ytkkdjgiencilbaa

namespace Go.Proofs.Ytkkdjgiencilbaa
open Go.RowKit Go.Deep Go.ChangeShapes Go.WideShapes
set_option linter.unusedVariables false
set_option maxRecDepth 100000
set_option linter.unusedSimpArgs false

section
variable {H : Type} {enc : TypeId × Value → H} {w : World} {base : Nat} {spare : Nat → Bool} {held : Bool}

theorem trod_struct5 {P : Program} {t : TypeId} {f0 f1 f2 f3 f4 : Field} {fuel : Nat} {cs : List Value} {x : DataW H × List MemPlace} (ht : P.underlying t = some (.struct #[f0, f1, f2, f3, f4])) (h : DataW.trod enc P w base spare held fuel t cs = some x) :
    ∃ y0 y1 y2 y3 y4 n, cs.length = P.cellsOf t ∧ DataW.trod enc P w base spare held n f0.type ((cs.drop f0.offset).take (P.cellsOf f0.type)) = some y0 ∧
      DataW.trod enc P w base spare held n f1.type ((cs.drop f1.offset).take (P.cellsOf f1.type)) = some y1 ∧ DataW.trod enc P w base spare held n f2.type ((cs.drop f2.offset).take (P.cellsOf f2.type)) = some y2 ∧
      DataW.trod enc P w base spare held n f3.type ((cs.drop f3.offset).take (P.cellsOf f3.type)) = some y3 ∧ DataW.trod enc P w base spare held n f4.type ((cs.drop f4.offset).take (P.cellsOf f4.type)) = some y4 := by
  obtain ⟨xs, n, _, rfl, hl, hlen, hf⟩ := DataW.trod_struct ht h
  match xs, hlen with
  | [y0, y1, y2, y3, y4], _ => exact ⟨y0, y1, y2, y3, y4, n, hl, by simpa using hf 0 f0 rfl, by simpa using hf 1 f1 rfl, by simpa using hf 2 f2 rfl, by simpa using hf 3 f3 rfl, by simpa using hf 4 f4 rfl⟩


set_option maxRecDepth 100000 in
theorem open_item {fuel : Nat} {cs : List Value} {x : DataW H × List MemPlace} (h : DataW.trod enc Try.prog w base spare held fuel 175 cs = some x) : ∃ z : ItemD, cs = z.cells := by
  obtain ⟨y0, y1, n, _, hl, h0, h1⟩ := trod_struct2 Try.underlying175 h
  rw [show Try.prog.cellsOf 175 = 2 by kernel_rfl] at hl
  have e : Try.prog.cellsOf 2 = 1 := by kernel_rfl
  match cs, hl with
  | [c0, c1], _ =>
    simp only [e, List.drop_zero, List.drop_succ_cons, List.take_succ_cons, List.take_zero] at h0 h1
    obtain ⟨k, e0, _⟩ := DataW.trod_int Try.underlying2 h0
    obtain ⟨y, e1, _⟩ := DataW.trod_int Try.underlying2 h1
    simp only [List.cons.injEq, and_true] at e0 e1
    exact ⟨⟨k, y⟩, by rw [e0, e1]; rfl⟩

set_option maxRecDepth 100000 in
theorem open_undo {fuel : Nat} {cs : List Value} {x : DataW H × List MemPlace} (h : DataW.trod enc Try.prog w base spare held fuel 179 cs = some x) : ∃ z : UndoD, cs = z.cells := by
  obtain ⟨y0, y1, y2, n, _, hl, h0, h1, h2⟩ := trod_struct3 Try.underlying179 h
  rw [show Try.prog.cellsOf 179 = 3 by kernel_rfl] at hl
  have e : Try.prog.cellsOf 2 = 1 := by kernel_rfl
  have e' : Try.prog.cellsOf 4 = 1 := by kernel_rfl
  match cs, hl with
  | [c0, c1, c2], _ =>
    simp only [e, e', List.drop_zero, List.drop_succ_cons, List.take_succ_cons, List.take_zero] at h0 h1 h2
    obtain ⟨k, e0, _⟩ := DataW.trod_int Try.underlying2 h0
    obtain ⟨y, e1, _⟩ := DataW.trod_bool Try.underlying4 h1
    obtain ⟨v, e2, _⟩ := DataW.trod_int Try.underlying2 h2
    simp only [List.cons.injEq, and_true] at e0 e1 e2
    exact ⟨⟨k, y, v⟩, by rw [e0, e1, e2]; rfl⟩

theorem open_itemK (n : Nat) (l : List Value) (y : DataW H × List MemPlace) (h : DataW.trod enc Try.prog w base spare held n 175 l = some y) : ∃ p : ItemD, l = itemK.cells p ∧ itemK.rd w p ∧ True := by
  obtain ⟨z, e⟩ := open_item h
  exact ⟨z, e, trivial, trivial⟩
theorem open_itemsK {fuel : Nat} {cs : List Value} {x : DataW H × List MemPlace} (h : DataW.trod enc Try.prog w base spare held fuel 105 cs = some x) :
    ∃ (v : Value) (zs : List ItemD), cs = [v] ∧ itemK.At w v zs ∧ zs.length ≤ 9223372036854775807 := by
  obtain ⟨v, ps, h1, h2, h3, _⟩ := open_kind itemK (fun _ => True) Try.underlying105 (by kernel_rfl) (by decide) open_itemK h
  exact ⟨v, ps, h1, h2, h3⟩
theorem open_undoK (n : Nat) (l : List Value) (y : DataW H × List MemPlace) (h : DataW.trod enc Try.prog w base spare held n 179 l = some y) : ∃ p : UndoD, l = undoK.cells p ∧ undoK.rd w p ∧ True := by
  obtain ⟨z, e⟩ := open_undo h
  exact ⟨z, e, trivial, trivial⟩
theorem open_undosK (n : Nat) (l : List Value) (y : DataW H × List MemPlace) (h : DataW.trod enc Try.prog w base spare held n 172 l = some y) : ∃ p : USQ, l = ussK.cells p ∧ ussK.rd w p ∧ USQ.wf p := by
  obtain ⟨v, ps, h1, h2, h3, _⟩ := open_kind undoK (fun _ => True) Try.underlying172 (by kernel_rfl) (by decide) open_undoK h
  exact ⟨⟨v, ps⟩, h1, h2, h3⟩
theorem open_ussK {fuel : Nat} {cs : List Value} {x : DataW H × List MemPlace} (h : DataW.trod enc Try.prog w base spare held fuel 106 cs = some x) :
    ∃ (v : Value) (ps : List USQ), cs = [v] ∧ ussK.At w v ps ∧ ps.length ≤ 9223372036854775807 ∧ ∀ p ∈ ps, USQ.wf p :=
  open_kind ussK USQ.wf Try.underlying106 (by kernel_rfl) (by decide) open_undosK h
theorem open_repCells {fuel : Nat} {cs : List Value} {x : DataW H × List MemPlace} (h : DataW.trod enc Try.prog w base spare held fuel 108 cs = some x) :
    ∃ p : RepQ, cs = [p.vd, p.vb, p.vt, p.vu, p.vn] ∧ repK.rd w p ∧ p.wf := by
  obtain ⟨y0, y1, y2, y3, y4, n, hl, h0, h1, h2, h3, h4⟩ := trod_struct5 Try.underlying108 h
  rw [show Try.prog.cellsOf 108 = 5 by kernel_rfl] at hl
  have e : Try.prog.cellsOf 99 = 1 := by kernel_rfl
  have e' : Try.prog.cellsOf 105 = 1 := by kernel_rfl
  have e2 : Try.prog.cellsOf 106 = 1 := by kernel_rfl
  match cs, hl with
  | [c0, c1, c2, c3, c4], _ =>
    simp only [e, e', e2, List.drop_zero, List.drop_succ_cons, List.take_succ_cons, List.take_zero] at h0 h1 h2 h3 h4
    obtain ⟨v0, z0, e0, a0, l0, w0⟩ := open_txnsK h0
    obtain ⟨v1, z1, e1, a1, l1⟩ := open_itemsK h1
    obtain ⟨v2, z2, e2, a2, l2, w2⟩ := open_txnsK h2
    obtain ⟨v3, z3, e3, a3, l3, w3⟩ := open_ussK h3
    obtain ⟨v4, z4, e4, a4, l4⟩ := open_itemsK h4
    simp only [List.cons.injEq, and_true] at e0 e1 e2 e3 e4
    exact ⟨⟨v0, z0, v1, z1, v2, z2, v3, z3, v4, z4⟩, by rw [e0, e1, e2, e3, e4], ⟨a0, a1, a2, a3, a4⟩, ⟨⟨l0, w0⟩, l1, ⟨l2, w2⟩, ⟨l3, w3⟩, l4⟩⟩
theorem open_rep {r : Reach} {b0 : Nat} {v : Value} {d : DataW H} {p : List MemPlace} (hv : Value.okWide Try.prog w r b0 108 v) (h : DataW.Trod enc Try.prog w base spare held 108 v d p) :
    ∃ q : RepQ, v = .agg #[q.vd, q.vb, q.vt, q.vu, q.vn] ∧ repK.rd w q ∧ q.wf := by
  obtain ⟨cs, rfl, hsz⟩ := okWide_struct Try.underlying108 hv
  obtain ⟨fuel, hf⟩ := h
  obtain ⟨q, e, h1, h2⟩ := open_repCells hf
  refine ⟨q, ?_, h1, h2⟩
  congr 1
  apply Array.ext'
  simpa [Value.cells] using e

end

end Go.Proofs.Ytkkdjgiencilbaa

namespace Go.Proofs.Ytkkdjgiencilbaa
open Go.RowKit Go.Deep Go.ChangeShapes Go.WideShapes
set_option linter.unusedVariables false
set_option maxRecDepth 100000
set_option linter.unusedSimpArgs false

section
variable {H : Type} {enc : TypeId × Value → H} {w : World} {base : Nat} {spare : Nat → Bool} {held : Bool}

set_option maxRecDepth 100000 in
theorem open_nodeCells {fuel : Nat} {cs : List Value} {x : DataW H × List MemPlace} (h : DataW.trod enc Try.prog w base spare held fuel 110 cs = some x) :
    ∃ (kn sf : Int) (p : RepQ), cs = [.int .i64 kn, .int .i64 sf, p.vd, p.vb, p.vt, p.vu, p.vn] ∧ repK.rd w p ∧ p.wf := by
  obtain ⟨y0, y1, y2, n, _, hl, h0, h1, h2⟩ := trod_struct3 Try.underlying110 h
  rw [show Try.prog.cellsOf 110 = 7 by kernel_rfl] at hl
  have e : Try.prog.cellsOf 2 = 1 := by kernel_rfl
  have e' : Try.prog.cellsOf 108 = 5 := by kernel_rfl
  match cs, hl with
  | [c0, c1, c2, c3, c4, c5, c6], _ =>
    simp only [e, e', List.drop_zero, List.drop_succ_cons, List.take_succ_cons, List.take_zero] at h0 h1 h2
    obtain ⟨k, e0, _⟩ := DataW.trod_int Try.underlying2 h0
    obtain ⟨s, e1, _⟩ := DataW.trod_int Try.underlying2 h1
    obtain ⟨p, e2, r, wf⟩ := open_repCells h2
    simp only [List.cons.injEq, and_true] at e0 e1 e2
    exact ⟨k, s, p, by rw [e0, e1, e2.1, e2.2.1, e2.2.2.1, e2.2.2.2.1, e2.2.2.2.2], r, wf⟩
theorem open_node {r : Reach} {b0 : Nat} {v : Value} {d : DataW H} {p : List MemPlace} (hv : Value.okWide Try.prog w r b0 110 v) (h : DataW.Trod enc Try.prog w base spare held 110 v d p) :
    ∃ (kn sf : Int) (q : RepQ), v = .agg #[.int .i64 kn, .int .i64 sf, q.vd, q.vb, q.vt, q.vu, q.vn] ∧ repK.rd w q ∧ q.wf := by
  obtain ⟨cs, rfl, hsz⟩ := okWide_struct Try.underlying110 hv
  obtain ⟨fuel, hf⟩ := h
  obtain ⟨kn, sf, q, e, h1, h2⟩ := open_nodeCells hf
  refine ⟨kn, sf, q, ?_, h1, h2⟩
  congr 1
  apply Array.ext'
  simpa [Value.cells] using e

end

end Go.Proofs.Ytkkdjgiencilbaa

namespace Go.Proofs.Ytkkdjgiencilbaa
open Go.RowKit Go.Deep Go.ChangeShapes Go.WideShapes
set_option linter.unusedVariables false
set_option linter.unusedSimpArgs false
set_option maxRecDepth 100000

section
variable {H : Type} {enc : TypeId × Value → H} {w : World} {base : Nat} {spare : Nat → Bool} {held : Bool}

theorem open_nodeK (n : Nat) (l : List Value) (y : DataW H × List MemPlace) (h : DataW.trod enc Try.prog w base spare held n 110 l = some y) : ∃ p : NodeQ, l = nodeK.cells p ∧ nodeK.rd w p ∧ NodeQ.wf p := by
  obtain ⟨kn, sf, p, e, h1, h2⟩ := open_nodeCells h
  exact ⟨NodeQ.of kn sf p, e, h1, h2⟩
theorem open_cluV {r : Reach} {b0 : Nat} {v : Value} {d : DataW H} {p : List MemPlace} (hv : Value.okWide Try.prog w r b0 25 v) (h : DataW.Trod enc Try.prog w base spare held 25 v d p) :
    ∃ q : CluQ, v = .agg #[q.vo, q.vm] ∧ cluK.rd w q ∧ q.wf := by
  obtain ⟨cs, rfl, hsz⟩ := okWide_struct Try.underlying25 hv
  obtain ⟨fuel, hf⟩ := h
  obtain ⟨y0, y1, n, _, hl, h0, h1⟩ := trod_struct2 Try.underlying25 hf
  rw [show Try.prog.cellsOf 25 = 2 by kernel_rfl] at hl
  have e0 : Try.prog.cellsOf 22 = 1 := by kernel_rfl
  have e1 : Try.prog.cellsOf 23 = 1 := by kernel_rfl
  obtain ⟨l⟩ := cs
  match l, hl with
  | [c0, c1], _ =>
    simp only [Value.cells, e0, e1, List.drop_zero, List.drop_succ_cons, List.take_succ_cons, List.take_zero] at h0 h1
    obtain ⟨v0, ps, f0, r0, l0, w0⟩ := open_kind instK InstQ.wf Try.underlying22 (by kernel_rfl) (by decide) open_instK h0
    obtain ⟨v1, qs, f1, r1, l1, w1⟩ := open_kind nodeK NodeQ.wf Try.underlying23 (by kernel_rfl) (by decide) open_nodeK h1
    simp only [List.cons.injEq, and_true] at f0 f1
    subst f0 f1
    exact ⟨⟨c0, ps, c1, qs⟩, rfl, ⟨r0, r1⟩, ⟨l0, w0⟩, ⟨l1, w1⟩⟩

end

end Go.Proofs.Ytkkdjgiencilbaa

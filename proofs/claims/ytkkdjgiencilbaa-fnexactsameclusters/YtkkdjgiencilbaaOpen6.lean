/- An instance that came in, opened. No condition. -/
import Derived.Test.YtkkdjgiencilbaaOpen2
import Derived.Test.YtkkdjgiencilbaaOpen3
import Derived.Test.YtkkdjgiencilbaaKI
namespace Go.Proofs.Ytkkdjgiencilbaa
open Go.RowKit Go.Deep Go.ChangeShapes Go.WideShapes
set_option linter.unusedVariables false
set_option maxRecDepth 100000
set_option linter.unusedSimpArgs false

section
variable {H : Type} {enc : TypeId × Value → H} {w : World} {base : Nat} {spare : Nat → Bool} {held : Bool}

/-- A slice of whatever elements that are opened one by one. -/
theorem open_kind {P : Type} (K : Kind P) (q : P → Prop) {t e : TypeId} {fuel : Nat} {cs : List Value} {x : DataW H × List MemPlace} (ht : Try.prog.underlying t = some (.slice e)) (hc : Try.prog.cellsOf e = K.size) (hc0 : 0 < K.size)
    (hel : ∀ (n : Nat) (l : List Value) y, DataW.trod enc Try.prog w base spare held n e l = some y → ∃ p : P, l = K.cells p ∧ K.rd w p ∧ q p) (h : DataW.trod enc Try.prog w base spare held fuel t cs = some x) :
    ∃ (v : Value) (ps : List P), cs = [v] ∧ K.At w v ps ∧ ps.length ≤ 9223372036854775807 ∧ ∀ p ∈ ps, q p := by
  obtain ⟨a, cap, n, css, rfl, hl, hL, hcs⟩ := open_row ht hc hc0 h
  obtain ⟨ps, rfl, hq⟩ := list_pre2 K.cells (fun p => K.rd w p ∧ q p) css (fun l hl => by
    obtain ⟨_, y, hy⟩ := hcs l hl
    obtain ⟨p, h1, h2, h3⟩ := hel n l y hy
    exact ⟨p, h1, h2, h3⟩)
  rw [← List.flatMap_def] at hL
  refine ⟨.slice a (ps.map K.cells).length cap, ps, rfl, ⟨a, cap, by rw [List.length_map], hL, fun p hp => (hq p hp).1⟩, by simpa using hl, fun p hp => (hq p hp).2⟩

theorem open_i64 (n : Nat) (l : List Value) (y : DataW H × List MemPlace) (h : DataW.trod enc Try.prog w base spare held n 2 l = some y) : ∃ p : Int, l = intK.cells p ∧ intK.rd w p ∧ True := by
  obtain ⟨k, e, _⟩ := DataW.trod_int Try.underlying2 h
  exact ⟨k, e, trivial, trivial⟩
theorem open_intsK {fuel : Nat} {cs : List Value} {x : DataW H × List MemPlace} (h : DataW.trod enc Try.prog w base spare held fuel 101 cs = some x) :
    ∃ (v : Value) (zs : List Int), cs = [v] ∧ intK.At w v zs ∧ zs.length ≤ 9223372036854775807 := by
  obtain ⟨v, ps, h1, h2, h3, _⟩ := open_kind intK (fun _ => True) Try.underlying101 (by kernel_rfl) (by decide) open_i64 h
  exact ⟨v, ps, h1, h2, h3⟩
theorem open_txnK (n : Nat) (l : List Value) (y : DataW H × List MemPlace) (h : DataW.trod enc Try.prog w base spare held n 36 l = some y) : ∃ p : TxnQ, l = txnK.cells p ∧ txnK.rd w p ∧ TxnQ.wf p := by
  obtain ⟨i, s, q, a, cap, zs, e, hz, hA⟩ := open_txnCells h
  exact ⟨⟨i, s, q, .slice a zs.length cap, zs⟩, e, actK_mk hA, hz⟩
theorem open_txnsK {fuel : Nat} {cs : List Value} {x : DataW H × List MemPlace} (h : DataW.trod enc Try.prog w base spare held fuel 99 cs = some x) :
    ∃ (v : Value) (ps : List TxnQ), cs = [v] ∧ txnK.At w v ps ∧ ps.length ≤ 9223372036854775807 ∧ ∀ p ∈ ps, TxnQ.wf p :=
  open_kind txnK TxnQ.wf Try.underlying99 (by kernel_rfl) (by decide) open_txnK h
theorem open_roundK (n : Nat) (l : List Value) (y : DataW H × List MemPlace) (h : DataW.trod enc Try.prog w base spare held n 159 l = some y) : ∃ p : RoundQ, l = roundK.cells p ∧ roundK.rd w p ∧ RoundQ.wf p := by
  obtain ⟨y0, y1, n, _, hl, h0, h1⟩ := trod_struct2 Try.underlying159 h
  rw [show Try.prog.cellsOf 159 = 2 by kernel_rfl] at hl
  have e : Try.prog.cellsOf 101 = 1 := by kernel_rfl
  match l, hl with
  | [c0, c1], _ =>
    simp only [e, List.drop_zero, List.drop_succ_cons, List.take_succ_cons, List.take_zero] at h0 h1
    obtain ⟨v0, z0, e0, a0, l0⟩ := open_intsK h0
    obtain ⟨v1, z1, e1, a1, l1⟩ := open_intsK h1
    simp only [List.cons.injEq, and_true] at e0 e1
    exact ⟨⟨v0, z0, v1, z1⟩, by rw [e0, e1]; rfl, ⟨a0, a1⟩, ⟨l0, l1⟩⟩
theorem open_roundsK {fuel : Nat} {cs : List Value} {x : DataW H × List MemPlace} (h : DataW.trod enc Try.prog w base spare held fuel 100 cs = some x) :
    ∃ (v : Value) (ps : List RoundQ), cs = [v] ∧ roundK.At w v ps ∧ ps.length ≤ 9223372036854775807 ∧ ∀ p ∈ ps, RoundQ.wf p :=
  open_kind roundK RoundQ.wf Try.underlying100 (by kernel_rfl) (by decide) open_roundK h
theorem open_instCells {fuel : Nat} {cs : List Value} {x : DataW H × List MemPlace} (h : DataW.trod enc Try.prog w base spare held fuel 103 cs = some x) :
    ∃ p : InstQ, cs = [.bool p.has, p.vb, p.vr, p.vd] ∧ instK.rd w p ∧ p.wf := by
  obtain ⟨y0, y1, y2, y3, n, _, hl, h0, h1, h2, h3⟩ := Go.Joins.trod_struct4 Try.underlying103 h
  rw [show Try.prog.cellsOf 103 = 4 by kernel_rfl] at hl
  have e : Try.prog.cellsOf 4 = 1 := by kernel_rfl
  have e' : Try.prog.cellsOf 99 = 1 := by kernel_rfl
  have e2 : Try.prog.cellsOf 100 = 1 := by kernel_rfl
  have e3 : Try.prog.cellsOf 101 = 1 := by kernel_rfl
  match cs, hl with
  | [c0, c1, c2, c3], _ =>
    simp only [e, e', e2, e3, List.drop_zero, List.drop_succ_cons, List.take_succ_cons, List.take_zero] at h0 h1 h2 h3
    obtain ⟨k, e0, _⟩ := DataW.trod_bool Try.underlying4 h0
    obtain ⟨v1, z1, e1, a1, l1, w1⟩ := open_txnsK h1
    obtain ⟨v2, z2, e2, a2, l2, w2⟩ := open_roundsK h2
    obtain ⟨v3, z3, e3, a3, l3⟩ := open_intsK h3
    simp only [List.cons.injEq, and_true] at e0 e1 e2 e3
    exact ⟨⟨k, v1, z1, v2, z2, v3, z3⟩, by rw [e0, e1, e2, e3], ⟨a1, a2, a3⟩, ⟨⟨l1, w1⟩, ⟨l2, w2⟩, l3⟩⟩
theorem open_inst {r : Reach} {b0 : Nat} {v : Value} {d : DataW H} {p : List MemPlace} (hv : Value.okWide Try.prog w r b0 103 v) (h : DataW.Trod enc Try.prog w base spare held 103 v d p) :
    ∃ q : InstQ, v = .agg #[.bool q.has, q.vb, q.vr, q.vd] ∧ instK.rd w q ∧ q.wf := by
  obtain ⟨cs, rfl, hsz⟩ := okWide_struct Try.underlying103 hv
  obtain ⟨fuel, hf⟩ := h
  obtain ⟨q, e, h1, h2⟩ := open_instCells hf
  refine ⟨q, ?_, h1, h2⟩
  congr 1
  apply Array.ext'
  simpa [Value.cells] using e
theorem open_txnsV {r : Reach} {b0 : Nat} {v : Value} {d : DataW H} {p : List MemPlace} (hv : Value.okWide Try.prog w r b0 99 v) (h : DataW.Trod enc Try.prog w base spare held 99 v d p) :
    ∃ ps : List TxnQ, txnK.At w v ps ∧ ps.length ≤ 9223372036854775807 ∧ ∀ p ∈ ps, TxnQ.wf p := by
  obtain ⟨a0, len0, cap0, rfl⟩ := okWide_slice Try.underlying99 hv
  obtain ⟨fuel, hf⟩ := h
  obtain ⟨v, ps, e, h1, h2, h3⟩ := open_txnsK hf
  simp [Value.cells] at e
  rw [← e] at h1
  exact ⟨ps, h1, h2, h3⟩

end

end Go.Proofs.Ytkkdjgiencilbaa

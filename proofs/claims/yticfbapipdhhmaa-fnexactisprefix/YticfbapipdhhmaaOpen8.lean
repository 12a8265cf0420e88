/- A list of transactions that came in, opened. No condition. -/
import Derived.Test.YticfbapipdhhmaaOpen2
import Derived.Test.YticfbapipdhhmaaOpen3
import Derived.Test.YticfbapipdhhmaaKT
namespace Go.Proofs.Yticfbapipdhhmaa
open Go.RowKit Go.Deep Go.ChangeShapes Go.WideShapes
set_option linter.unusedVariables false
set_option linter.unusedSimpArgs false
set_option maxRecDepth 100000

section
variable {H : Type} {enc : TypeId × Value → H} {w : World} {base : Nat} {spare : Nat → Bool} {held : Bool}

/-- A slice of whatever elements that are opened one by one. -/
theorem open_kind {P : Type} (K : Kind P) (q : P → Prop) {t e : TypeId} {fuel : Nat} {cs : List Value} {x : DataW H × List MemPlace} (ht : Try.prog.underlying t = some (.slice e)) (hc : Try.prog.cellsOf e = K.size) (hc0 : 0 < K.size)
    (hel : ∀ (n : Nat) (l : List Value) y, DataW.trod enc Try.prog w base spare held n e l = some y → ∃ p : P, l = K.cells p ∧ K.rd w p ∧ q p) (h : DataW.trod enc Try.prog w base spare held fuel t cs = some x) :
    ∃ (v : Value) (ps : List P), cs = [v] ∧ K.At w v ps ∧ ps.length ≤ 9223372036854775807 ∧ ∀ p ∈ ps, q p := by
  obtain ⟨a, cap, n, css, rfl, hl, hL, hcs⟩ := open_row ht hc hc0 h
  obtain ⟨ps, rfl, hq⟩ := list_pre2 K.cells (fun p => K.rd w p ∧ q p) css (fun l hl => by
    obtain ⟨_, y, hy⟩ := hcs l hl
    obtain ⟨p, h1, h2, h3⟩ := hel n l y hy
    exact ⟨p, h1, h2, h3⟩)
  rw [← List.flatMap_def] at hL
  refine ⟨.slice a (ps.map K.cells).length cap, ps, rfl, ⟨a, cap, by rw [List.length_map], hL, fun p hp => (hq p hp).1⟩, by simpa using hl, fun p hp => (hq p hp).2⟩

theorem open_txnK (n : Nat) (l : List Value) (y : DataW H × List MemPlace) (h : DataW.trod enc Try.prog w base spare held n 31 l = some y) : ∃ p : TxnQ, l = txnK.cells p ∧ txnK.rd w p ∧ TxnQ.wf p := by
  obtain ⟨i, s, q, a, cap, zs, e, hz, hA⟩ := open_txnCells h
  exact ⟨⟨i, s, q, .slice a zs.length cap, zs⟩, e, actK_mk hA, hz⟩
theorem open_txnsK {fuel : Nat} {cs : List Value} {x : DataW H × List MemPlace} (h : DataW.trod enc Try.prog w base spare held fuel 22 cs = some x) :
    ∃ (v : Value) (ps : List TxnQ), cs = [v] ∧ txnK.At w v ps ∧ ps.length ≤ 9223372036854775807 ∧ ∀ p ∈ ps, TxnQ.wf p :=
  open_kind txnK TxnQ.wf Try.underlying22 (by kernel_rfl) (by decide) open_txnK h
theorem open_txnsV {r : Reach} {b0 : Nat} {v : Value} {d : DataW H} {p : List MemPlace} (hv : Value.okWide Try.prog w r b0 22 v) (h : DataW.Trod enc Try.prog w base spare held 22 v d p) :
    ∃ ps : List TxnQ, txnK.At w v ps ∧ ps.length ≤ 9223372036854775807 ∧ ∀ p ∈ ps, TxnQ.wf p := by
  obtain ⟨a0, len0, cap0, rfl⟩ := okWide_slice Try.underlying22 hv
  obtain ⟨fuel, hf⟩ := h
  obtain ⟨v, ps, e, h1, h2, h3⟩ := open_txnsK hf
  simp [Value.cells] at e
  rw [← e] at h1
  exact ⟨ps, h1, h2, h3⟩

theorem open_txnV {r : Reach} {b0 : Nat} {v : Value} {d : DataW H} {p : List MemPlace} (hv : Value.okWide Try.prog w r b0 31 v) (h : DataW.Trod enc Try.prog w base spare held 31 v d p) :
    ∃ q : TxnQ, v = .agg #[.int .i64 q.i, .int .i64 q.s, .int .i64 q.q, q.va] ∧ txnK.rd w q ∧ TxnQ.wf q := by
  obtain ⟨cs, rfl, hsz⟩ := okWide_struct Try.underlying31 hv
  obtain ⟨fuel, hf⟩ := h
  obtain ⟨q, e, h1, h2⟩ := open_txnK _ _ _ hf
  refine ⟨q, ?_, h1, h2⟩
  congr 1
  apply Array.ext'
  have e' : cs.toList = txnK.cells q := by simpa [Value.cells] using e
  exact e'

end

end Go.Proofs.Yticfbapipdhhmaa

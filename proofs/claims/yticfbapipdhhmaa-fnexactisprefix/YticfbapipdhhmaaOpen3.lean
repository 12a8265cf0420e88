/- A list of transactions that came in, opened. No condition. -/
import Derived.Test.YticfbapipdhhmaaOpen2
import Derived.Test.YticfbapipdhhmaaD2s
namespace Go.Proofs.Yticfbapipdhhmaa
open Go.RowKit Go.Deep Go.ChangeShapes Go.WideShapes
set_option linter.unusedVariables false
set_option linter.unusedSimpArgs false

section
variable {H : Type} {enc : TypeId × Value → H} {w : World} {base : Nat} {spare : Nat → Bool} {held : Bool}

set_option maxRecDepth 100000 in
theorem open_txnP {fuel : Nat} {cs : List Value} {x : DataW H × List MemPlace} (h : DataW.trod enc Try.prog w base spare held fuel 31 cs = some x) :
    ∃ p : TxnP, cs = p.cells ∧ p.d.acts.length ≤ 9223372036854775807 ∧ ActRow w p.a p.d.acts := by
  obtain ⟨i, s, q, a, cap, zs, e, hz, hA⟩ := open_txnCells h
  exact ⟨⟨⟨i, s, q, zs⟩, a, cap⟩, e, hz, hA⟩

theorem list_pre2 {α β : Type} (f : β → α) (q : β → Prop) (l : List α) (h : ∀ x ∈ l, ∃ b, x = f b ∧ q b) : ∃ bs : List β, l = bs.map f ∧ ∀ b ∈ bs, q b := by
  induction l with
  | nil => exact ⟨[], rfl, by simp⟩
  | cons x l ih =>
    obtain ⟨bs, rfl, hq⟩ := ih (fun x hx => h x (by simp [hx]))
    obtain ⟨b, rfl, hb⟩ := h x (by simp)
    exact ⟨b :: bs, rfl, by intro c hc; rcases List.mem_cons.1 hc with rfl | hc; exact hb; exact hq c hc⟩

set_option maxRecDepth 100000 in
theorem open_txns {r : Reach} {b0 : Nat} {v : Value} {d : DataW H} {p : List MemPlace} (hv : Value.okWide Try.prog w r b0 22 v) (h : DataW.Trod enc Try.prog w base spare held 22 v d p) :
    ∃ ds : List TxnD, TxnsAt w v ds ∧ ds.length ≤ 9223372036854775807 ∧ ∀ d ∈ ds, d.acts.length ≤ 9223372036854775807 := by
  obtain ⟨a0, len0, cap0, rfl⟩ := okWide_slice Try.underlying22 hv
  obtain ⟨fuel, hf⟩ := h
  obtain ⟨a, cap, n, css, e, hl, hL, hc⟩ := open_row Try.underlying22 (show Try.prog.cellsOf 31 = 4 by kernel_rfl) (by omega) hf
  obtain ⟨ps, rfl, hq⟩ := list_pre2 TxnP.cells (fun p => p.d.acts.length ≤ 9223372036854775807 ∧ ActRow w p.a p.d.acts) css (fun l hl => by obtain ⟨_, y, hy⟩ := hc l hl; exact open_txnP hy)
  simp [Value.cells] at e
  obtain ⟨rfl, rfl, rfl⟩ := e
  rw [← List.flatMap_def] at hL
  refine ⟨ps.map TxnP.d, ⟨a0, cap0, ps, by simp, rfl, hL, fun p hp => (hq p hp).2⟩, by simpa using hl, ?_⟩
  intro d hd
  obtain ⟨p, hp, rfl⟩ := List.mem_map.1 hd
  exact (hq p hp).1

end

end Go.Proofs.Yticfbapipdhhmaa

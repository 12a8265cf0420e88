/- What came in, opened: a slice of whatever structs as a row of cells; acts and transactions. No condition. -/
import Derived.Test.YticfbapipdhhmaaD2
import Derived.Deep.Slices
import Derived.Deep.Strs
import Derived.Lib.SmallJoins
import Derived.ProofKit
namespace Go.Proofs.Yticfbapipdhhmaa
open Go.RowKit Go.Deep Go.ChangeShapes Go.WideShapes
set_option linter.unusedVariables false
set_option linter.unusedSimpArgs false

theorem flatten_at {α : Type} {c : Nat} (css : List (List α)) (hc : ∀ l ∈ css, l.length = c) : ∀ (j : Nat) (x : α), css.flatten[j]? = some x → ∃ i r, j = i * c + r ∧ r < c ∧ i < css.length ∧ (css.getD i [])[r]? = some x := by
  induction css with
  | nil => intro j x h; simp at h
  | cons l css ih =>
    intro j x h
    have hl : l.length = c := hc l (by simp)
    rw [List.flatten_cons] at h
    by_cases hj : j < c
    · rw [List.getElem?_append_left (by omega)] at h
      exact ⟨0, j, by omega, hj, by simp, by simpa [List.getD] using h⟩
    · rw [List.getElem?_append_right (by omega), hl] at h
      obtain ⟨i, r, e1, e2, e3, e4⟩ := ih (fun l hl => hc l (by simp [hl])) _ _ h
      refine ⟨i + 1, r, ?_, e2, by simpa using e3, by simpa [List.getD] using e4⟩
      rw [Nat.add_mul]; omega

section
variable {H : Type} {enc : TypeId × Value → H} {P : Program} {w : World} {base : Nat} {spare : Nat → Bool} {held : Bool}

set_option maxRecDepth 100000 in
theorem open_row {t e : TypeId} {c fuel : Nat} {cs : List Value} {x : DataW H × List MemPlace} (ht : P.underlying t = some (.slice e)) (hc : P.cellsOf e = c) (hc0 : 0 < c) (h : DataW.trod enc P w base spare held fuel t cs = some x) :
    ∃ (a : Option Addr) (cap n : Nat) (css : List (List Value)), cs = [.slice a css.length cap] ∧ css.length ≤ 9223372036854775807 ∧ Lies w a css.flatten ∧ ∀ l ∈ css, l.length = c ∧ ∃ y, DataW.trod enc P w base spare held n e l = some y := by
  rcases open_slice ht h with ⟨rfl, _⟩ | ⟨a, len, cap, m, n, D, Pl, rfl, hb, hl, hm, hmm, rfl, hx⟩
  · exact ⟨none, 0, 0, [], rfl, by simp, Or.inl rfl, by simp⟩
  have hlm : len ≤ m := by rw [hmm]; split <;> omega
  rw [hc] at hx
  obtain ⟨f, hf⟩ := choose_lt (α := List Value) (p := fun i l => w.cells? base (a.add (i * c)) c = some l ∧ DataW.trod enc P w base spare held n e l = some (D i, Pl i)) (fun i hi => hx i (Nat.lt_of_lt_of_le hi hlm))
  have hlen : ∀ i, i < len → (f i).length = c := fun i hi => (World.cells?_some (hf i hi).1).2.1
  have hall : ∀ l ∈ (List.range len).map f, l.length = c := by
    intro l hl
    obtain ⟨i, hi, rfl⟩ := List.mem_map.1 hl
    exact hlen i (List.mem_range.1 hi)
  refine ⟨some a, cap, n, (List.range len).map f, by simp, ?_, ?_, ?_⟩
  · unfold maxLen at hm; simp; omega
  · by_cases h0 : len = 0
    · subst h0; exact Or.inl rfl
    · right
      have h00 := (World.cells?_some (hf 0 (by omega)).1).2.2 0 hc0
      obtain ⟨v, hv⟩ : ∃ v, (f 0)[0]? = some v := ⟨_, List.getElem?_eq_getElem (by rw [hlen 0 (by omega)]; exact hc0)⟩
      rw [hv, add_add] at h00
      obtain ⟨b, off, spot⟩ := a
      have hspot : spot = none := by simpa [Addr.add] using World.cell?_spot h00
      subst hspot
      refine ⟨b, off, rfl, by simpa [Addr.add_lit] using World.block_lt_of_cell? w _ h00, ?_⟩
      intro j x hj
      obtain ⟨i, r, rfl, hr, hi, hxr⟩ := flatten_at _ hall j x hj
      have hi' : i < len := by simpa using hi
      have hxr' : (f i)[r]? = some x := by simpa [List.getD, hi'] using hxr
      have := (World.cells?_some (hf i hi').1).2.2 r hr
      rw [add_add, Addr.add_lit, hxr'] at this
      exact this
  · intro l hl
    obtain ⟨i, hi, rfl⟩ := List.mem_map.1 hl
    exact ⟨hlen i (List.mem_range.1 hi), _, (hf i (List.mem_range.1 hi)).2⟩

end

theorem list_pre {α β : Type} {p : β → α → Prop} {q : α → Prop} (f : β → α) (l : List α) (h : ∀ x ∈ l, ∃ b, x = f b) : ∃ bs : List β, l = bs.map f := by
  induction l with
  | nil => exact ⟨[], rfl⟩
  | cons x l ih =>
    obtain ⟨bs, rfl⟩ := ih (fun x hx => h x (by simp [hx]))
    obtain ⟨b, rfl⟩ := h x (by simp)
    exact ⟨b :: bs, rfl⟩

section
variable {H : Type} {enc : TypeId × Value → H} {w : World} {base : Nat} {spare : Nat → Bool} {held : Bool}

set_option maxRecDepth 100000 in
theorem open_act {fuel : Nat} {cs : List Value} {x : DataW H × List MemPlace} (h : DataW.trod enc Try.prog w base spare held fuel 46 cs = some x) : ∃ z : ActD, cs = z.cells := by
  obtain ⟨y0, y1, y2, n, _, hl, h0, h1, h2⟩ := trod_struct3 Try.underlying46 h
  rw [show Try.prog.cellsOf 46 = 3 by kernel_rfl] at hl
  have e : Try.prog.cellsOf 2 = 1 := by kernel_rfl
  match cs, hl with
  | [c0, c1, c2], _ =>
    simp only [e, List.drop_zero, List.drop_succ_cons, List.take_succ_cons, List.take_zero] at h0 h1 h2
    obtain ⟨k, e0, _⟩ := DataW.trod_int Try.underlying2 h0
    obtain ⟨y, e1, _⟩ := DataW.trod_int Try.underlying2 h1
    obtain ⟨v, e2, _⟩ := DataW.trod_int Try.underlying2 h2
    simp only [List.cons.injEq, and_true] at e0 e1 e2
    exact ⟨⟨k, y, v⟩, by rw [e0, e1, e2]; rfl⟩

set_option maxRecDepth 100000 in
theorem open_acts {fuel : Nat} {cs : List Value} {x : DataW H × List MemPlace} (h : DataW.trod enc Try.prog w base spare held fuel 29 cs = some x) :
    ∃ (a : Option Addr) (cap : Nat) (zs : List ActD), cs = [.slice a zs.length cap] ∧ zs.length ≤ 9223372036854775807 ∧ ActRow w a zs := by
  obtain ⟨a, cap, n, css, rfl, hl, hL, hc⟩ := open_row Try.underlying29 (show Try.prog.cellsOf 46 = 3 by kernel_rfl) (by omega) h
  obtain ⟨zs, rfl⟩ := list_pre (p := fun _ _ => True) (q := fun _ => True) ActD.cells css (fun l hl => by obtain ⟨_, y, hy⟩ := hc l hl; exact open_act hy)
  refine ⟨a, cap, zs, by simp, by simpa using hl, ?_⟩
  rw [← List.flatMap_def] at hL
  exact hL

set_option maxRecDepth 100000 in
theorem open_txnCells {fuel : Nat} {cs : List Value} {x : DataW H × List MemPlace} (h : DataW.trod enc Try.prog w base spare held fuel 31 cs = some x) :
    ∃ (i s q : Int) (a : Option Addr) (cap : Nat) (zs : List ActD), cs = [.int .i64 i, .int .i64 s, .int .i64 q, .slice a zs.length cap] ∧ zs.length ≤ 9223372036854775807 ∧ ActRow w a zs := by
  obtain ⟨y0, y1, y2, y3, n, _, hl, h0, h1, h2, h3⟩ := Go.Joins.trod_struct4 Try.underlying31 h
  rw [show Try.prog.cellsOf 31 = 4 by kernel_rfl] at hl
  have e : Try.prog.cellsOf 2 = 1 := by kernel_rfl
  have e' : Try.prog.cellsOf 29 = 1 := by kernel_rfl
  match cs, hl with
  | [c0, c1, c2, c3], _ =>
    simp only [e, e', List.drop_zero, List.drop_succ_cons, List.take_succ_cons, List.take_zero] at h0 h1 h2 h3
    obtain ⟨k, e0, _⟩ := DataW.trod_int Try.underlying2 h0
    obtain ⟨y, e1, _⟩ := DataW.trod_int Try.underlying2 h1
    obtain ⟨v, e2, _⟩ := DataW.trod_int Try.underlying2 h2
    obtain ⟨a, cap, zs, e3, hz, hA⟩ := open_acts h3
    simp only [List.cons.injEq, and_true] at e0 e1 e2 e3
    exact ⟨k, y, v, a, cap, zs, by rw [e0, e1, e2, e3], hz, hA⟩

set_option maxRecDepth 100000 in
theorem open_txn {r : Reach} {b0 : Nat} {v : Value} {d : DataW H} {p : List MemPlace} (hv : Value.okWide Try.prog w r b0 31 v) (h : DataW.Trod enc Try.prog w base spare held 31 v d p) :
    ∃ (i s q : Int) (a : Option Addr) (cap : Nat) (zs : List ActD), v = .agg #[.int .i64 i, .int .i64 s, .int .i64 q, .slice a zs.length cap] ∧ zs.length ≤ 9223372036854775807 ∧ ActRow w a zs := by
  obtain ⟨cs, rfl, hsz⟩ := okWide_struct Try.underlying31 hv
  obtain ⟨fuel, hf⟩ := h
  obtain ⟨i, s, q, a, cap, zs, e, hz, hA⟩ := open_txnCells hf
  refine ⟨i, s, q, a, cap, zs, ?_, hz, hA⟩
  congr 1
  apply Array.ext'
  simpa [Value.cells] using e

end

end Go.Proofs.Yticfbapipdhhmaa

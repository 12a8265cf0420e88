/- What came in, opened: a slice of whatever structs as a row of cells; acts and transactions. No condition. -/
import Derived.Test.YtmlkfmjenkcflaaGreatDoorGB
import Derived.Deep.Slices
import Derived.Deep.Strs
import Derived.Lib.SmallJoins
import Derived.ProofKit
import Derived.Test.YtmlkfmjenkcflaaGreatDoorGE
import Derived.Test.YtmlkfmjenkcflaaGreatDoorGG
import Derived.Test.YtmlkfmjenkcflaaGreatDoorRows
import Derived.Test.YtmlkfmjenkcflaaGreatDoorGC
import Derived.Lib.LaidU8
import Derived.OpenVars
import Derived.LaidMore
import Derived.Stop.LaidErr
import Derived.Stop.Joined
namespace Go.Proofs.YtmlkfmjenkcflaaGreatDoor
open Go.RowKit Go.Deep Go.ChangeShapes Go.WideShapes
set_option linter.unusedVariables false
set_option maxRecDepth 100000
set_option linter.unusedSimpArgs false

theorem flatten_at {α : Type} {c : Nat} (css : List (List α)) (hc : ∀ l ∈ css, l.length = c) : ∀ (j : Nat) (x : α), css.flatten[j]? = some x → ∃ i r, j = i * c + r ∧ r < c ∧ i < css.length ∧ (css.getD i [])[r]? = some x := by
  induction css with
  | nil => intro j x h; simp at h
  | cons l css ih =>
    intro j x h
    have hl : l.length = c := hc l (by simp)
    rw [List.flatten_cons] at h
    by_cases hj : j < c
    · rw [List.getElem?_append_left (by omega)] at h
      exact ⟨0, j, by omega, hj, by simp, by simpa [List.getD] using h⟩
    · rw [List.getElem?_append_right (by omega), hl] at h
      obtain ⟨i, r, e1, e2, e3, e4⟩ := ih (fun l hl => hc l (by simp [hl])) _ _ h
      refine ⟨i + 1, r, ?_, e2, by simpa using e3, by simpa [List.getD] using e4⟩
      rw [Nat.add_mul]; omega

section
variable {H : Type} {enc : TypeId × Value → H} {P : Program} {w : World} {base : Nat} {spare : Nat → Bool} {held : Bool}

set_option maxRecDepth 100000 in
theorem open_row {t e : TypeId} {c fuel : Nat} {cs : List Value} {x : DataW H × List MemPlace} (ht : P.underlying t = some (.slice e)) (hc : P.cellsOf e = c) (hc0 : 0 < c) (h : DataW.trod enc P w base spare held fuel t cs = some x) :
    ∃ (a : Option Addr) (cap n : Nat) (css : List (List Value)), cs = [.slice a css.length cap] ∧ css.length ≤ 9223372036854775807 ∧ Lies w a css.flatten ∧ ∀ l ∈ css, l.length = c ∧ ∃ y, DataW.trod enc P w base spare held n e l = some y := by
  rcases open_slice ht h with ⟨rfl, _⟩ | ⟨a, len, cap, m, n, D, Pl, rfl, hb, hl, hm, hmm, rfl, hx⟩
  · exact ⟨none, 0, 0, [], rfl, by simp, Or.inl rfl, by simp⟩
  have hlm : len ≤ m := by rw [hmm]; split <;> omega
  rw [hc] at hx
  obtain ⟨f, hf⟩ := choose_lt (α := List Value) (p := fun i l => w.cells? base (a.add (i * c)) c = some l ∧ DataW.trod enc P w base spare held n e l = some (D i, Pl i)) (fun i hi => hx i (Nat.lt_of_lt_of_le hi hlm))
  have hlen : ∀ i, i < len → (f i).length = c := fun i hi => (World.cells?_some (hf i hi).1).2.1
  have hall : ∀ l ∈ (List.range len).map f, l.length = c := by
    intro l hl
    obtain ⟨i, hi, rfl⟩ := List.mem_map.1 hl
    exact hlen i (List.mem_range.1 hi)
  refine ⟨some a, cap, n, (List.range len).map f, by simp, ?_, ?_, ?_⟩
  · unfold maxLen at hm; simp; omega
  · by_cases h0 : len = 0
    · subst h0; exact Or.inl rfl
    · right
      have h00 := (World.cells?_some (hf 0 (by omega)).1).2.2 0 hc0
      obtain ⟨v, hv⟩ : ∃ v, (f 0)[0]? = some v := ⟨_, List.getElem?_eq_getElem (by rw [hlen 0 (by omega)]; exact hc0)⟩
      rw [hv, add_add] at h00
      obtain ⟨b, off, spot⟩ := a
      have hspot : spot = none := by simpa [Addr.add] using World.cell?_spot h00
      subst hspot
      refine ⟨b, off, rfl, by simpa [Addr.add_lit] using World.block_lt_of_cell? w _ h00, ?_⟩
      intro j x hj
      obtain ⟨i, r, rfl, hr, hi, hxr⟩ := flatten_at _ hall j x hj
      have hi' : i < len := by simpa using hi
      have hxr' : (f i)[r]? = some x := by simpa [List.getD, hi'] using hxr
      have := (World.cells?_some (hf i hi').1).2.2 r hr
      rw [add_add, Addr.add_lit, hxr'] at this
      exact this
  · intro l hl
    obtain ⟨i, hi, rfl⟩ := List.mem_map.1 hl
    exact ⟨hlen i (List.mem_range.1 hi), _, (hf i (List.mem_range.1 hi)).2⟩

end

theorem list_pre {α β : Type} {p : β → α → Prop} {q : α → Prop} (f : β → α) (l : List α) (h : ∀ x ∈ l, ∃ b, x = f b) : ∃ bs : List β, l = bs.map f := by
  induction l with
  | nil => exact ⟨[], rfl⟩
  | cons x l ih =>
    obtain ⟨bs, rfl⟩ := ih (fun x hx => h x (by simp [hx]))
    obtain ⟨b, rfl⟩ := h x (by simp)
    exact ⟨b :: bs, rfl⟩

section
variable {H : Type} {enc : TypeId × Value → H} {w : World} {base : Nat} {spare : Nat → Bool} {held : Bool}

set_option maxRecDepth 100000 in
theorem open_act {fuel : Nat} {cs : List Value} {x : DataW H × List MemPlace} (h : DataW.trod enc Tryz.prog w base spare held fuel 107 cs = some x) : ∃ z : ActD, cs = z.cells := by
  obtain ⟨y0, y1, y2, n, _, hl, h0, h1, h2⟩ := trod_struct3 Tryz.underlying107 h
  rw [show Tryz.prog.cellsOf 107 = 3 by kernel_rfl] at hl
  have e : Tryz.prog.cellsOf 2 = 1 := by kernel_rfl
  match cs, hl with
  | [c0, c1, c2], _ =>
    simp only [e, List.drop_zero, List.drop_succ_cons, List.take_succ_cons, List.take_zero] at h0 h1 h2
    obtain ⟨k, e0, _⟩ := DataW.trod_int Tryz.underlying2 h0
    obtain ⟨y, e1, _⟩ := DataW.trod_int Tryz.underlying2 h1
    obtain ⟨v, e2, _⟩ := DataW.trod_int Tryz.underlying2 h2
    simp only [List.cons.injEq, and_true] at e0 e1 e2
    exact ⟨⟨k, y, v⟩, by rw [e0, e1, e2]; rfl⟩

set_option maxRecDepth 100000 in
theorem open_acts {fuel : Nat} {cs : List Value} {x : DataW H × List MemPlace} (h : DataW.trod enc Tryz.prog w base spare held fuel 55 cs = some x) :
    ∃ (a : Option Addr) (cap : Nat) (zs : List ActD), cs = [.slice a zs.length cap] ∧ zs.length ≤ 9223372036854775807 ∧ ActRow w a zs := by
  obtain ⟨a, cap, n, css, rfl, hl, hL, hc⟩ := open_row Tryz.underlying55 (show Tryz.prog.cellsOf 107 = 3 by kernel_rfl) (by omega) h
  obtain ⟨zs, rfl⟩ := list_pre (p := fun _ _ => True) (q := fun _ => True) ActD.cells css (fun l hl => by obtain ⟨_, y, hy⟩ := hc l hl; exact open_act hy)
  refine ⟨a, cap, zs, by simp, by simpa using hl, ?_⟩
  rw [← List.flatMap_def] at hL
  exact hL

set_option maxRecDepth 100000 in
theorem open_txnCells {fuel : Nat} {cs : List Value} {x : DataW H × List MemPlace} (h : DataW.trod enc Tryz.prog w base spare held fuel 57 cs = some x) :
    ∃ (i s q : Int) (a : Option Addr) (cap : Nat) (zs : List ActD), cs = [.int .i64 i, .int .i64 s, .int .i64 q, .slice a zs.length cap] ∧ zs.length ≤ 9223372036854775807 ∧ ActRow w a zs := by
  obtain ⟨y0, y1, y2, y3, n, _, hl, h0, h1, h2, h3⟩ := Go.Joins.trod_struct4 Tryz.underlying57 h
  rw [show Tryz.prog.cellsOf 57 = 4 by kernel_rfl] at hl
  have e : Tryz.prog.cellsOf 2 = 1 := by kernel_rfl
  have e' : Tryz.prog.cellsOf 55 = 1 := by kernel_rfl
  match cs, hl with
  | [c0, c1, c2, c3], _ =>
    simp only [e, e', List.drop_zero, List.drop_succ_cons, List.take_succ_cons, List.take_zero] at h0 h1 h2 h3
    obtain ⟨k, e0, _⟩ := DataW.trod_int Tryz.underlying2 h0
    obtain ⟨y, e1, _⟩ := DataW.trod_int Tryz.underlying2 h1
    obtain ⟨v, e2, _⟩ := DataW.trod_int Tryz.underlying2 h2
    obtain ⟨a, cap, zs, e3, hz, hA⟩ := open_acts h3
    simp only [List.cons.injEq, and_true] at e0 e1 e2 e3
    exact ⟨k, y, v, a, cap, zs, by rw [e0, e1, e2, e3], hz, hA⟩

set_option maxRecDepth 100000 in
theorem open_txn {r : Reach} {b0 : Nat} {v : Value} {d : DataW H} {p : List MemPlace} (hv : Value.okWide Tryz.prog w r b0 57 v) (h : DataW.Trod enc Tryz.prog w base spare held 57 v d p) :
    ∃ (i s q : Int) (a : Option Addr) (cap : Nat) (zs : List ActD), v = .agg #[.int .i64 i, .int .i64 s, .int .i64 q, .slice a zs.length cap] ∧ zs.length ≤ 9223372036854775807 ∧ ActRow w a zs := by
  obtain ⟨cs, rfl, hsz⟩ := okWide_struct Tryz.underlying57 hv
  obtain ⟨fuel, hf⟩ := h
  obtain ⟨i, s, q, a, cap, zs, e, hz, hA⟩ := open_txnCells hf
  refine ⟨i, s, q, a, cap, zs, ?_, hz, hA⟩
  congr 1
  apply Array.ext'
  simpa [Value.cells] using e

end

end Go.Proofs.YtmlkfmjenkcflaaGreatDoor

/- A list of transactions that came in, opened. No condition. -/
namespace Go.Proofs.YtmlkfmjenkcflaaGreatDoor
open Go.RowKit Go.Deep Go.ChangeShapes Go.WideShapes
set_option linter.unusedVariables false
set_option maxRecDepth 100000
set_option linter.unusedSimpArgs false

section
variable {H : Type} {enc : TypeId × Value → H} {w : World} {base : Nat} {spare : Nat → Bool} {held : Bool}

set_option maxRecDepth 100000 in
theorem open_txnP {fuel : Nat} {cs : List Value} {x : DataW H × List MemPlace} (h : DataW.trod enc Tryz.prog w base spare held fuel 57 cs = some x) :
    ∃ p : TxnP, cs = p.cells ∧ p.d.acts.length ≤ 9223372036854775807 ∧ ActRow w p.a p.d.acts := by
  obtain ⟨i, s, q, a, cap, zs, e, hz, hA⟩ := open_txnCells h
  exact ⟨⟨⟨i, s, q, zs⟩, a, cap⟩, e, hz, hA⟩

theorem list_pre2 {α β : Type} (f : β → α) (q : β → Prop) (l : List α) (h : ∀ x ∈ l, ∃ b, x = f b ∧ q b) : ∃ bs : List β, l = bs.map f ∧ ∀ b ∈ bs, q b := by
  induction l with
  | nil => exact ⟨[], rfl, by simp⟩
  | cons x l ih =>
    obtain ⟨bs, rfl, hq⟩ := ih (fun x hx => h x (by simp [hx]))
    obtain ⟨b, rfl, hb⟩ := h x (by simp)
    exact ⟨b :: bs, rfl, by intro c hc; rcases List.mem_cons.1 hc with rfl | hc; exact hb; exact hq c hc⟩

set_option maxRecDepth 100000 in
theorem open_txns {r : Reach} {b0 : Nat} {v : Value} {d : DataW H} {p : List MemPlace} (hv : Value.okWide Tryz.prog w r b0 22 v) (h : DataW.Trod enc Tryz.prog w base spare held 22 v d p) :
    ∃ ds : List TxnD, TxnsAt w v ds ∧ ds.length ≤ 9223372036854775807 ∧ ∀ d ∈ ds, d.acts.length ≤ 9223372036854775807 := by
  obtain ⟨a0, len0, cap0, rfl⟩ := okWide_slice Tryz.underlying22 hv
  obtain ⟨fuel, hf⟩ := h
  obtain ⟨a, cap, n, css, e, hl, hL, hc⟩ := open_row Tryz.underlying22 (show Tryz.prog.cellsOf 57 = 4 by kernel_rfl) (by omega) hf
  obtain ⟨ps, rfl, hq⟩ := list_pre2 TxnP.cells (fun p => p.d.acts.length ≤ 9223372036854775807 ∧ ActRow w p.a p.d.acts) css (fun l hl => by obtain ⟨_, y, hy⟩ := hc l hl; exact open_txnP hy)
  simp [Value.cells] at e
  obtain ⟨rfl, rfl, rfl⟩ := e
  rw [← List.flatMap_def] at hL
  refine ⟨ps.map TxnP.d, ⟨a0, cap0, ps, by simp, rfl, hL, fun p hp => (hq p hp).2⟩, by simpa using hl, ?_⟩
  intro d hd
  obtain ⟨p, hp, rfl⟩ := List.mem_map.1 hd
  exact (hq p hp).1

end

end Go.Proofs.YtmlkfmjenkcflaaGreatDoor

/- An instance that came in, opened. No condition. -/
namespace Go.Proofs.YtmlkfmjenkcflaaGreatDoor
open Go.RowKit Go.Deep Go.ChangeShapes Go.WideShapes
set_option linter.unusedVariables false
set_option maxRecDepth 100000
set_option linter.unusedSimpArgs false

section
variable {H : Type} {enc : TypeId × Value → H} {w : World} {base : Nat} {spare : Nat → Bool} {held : Bool}

/-- A slice of whatever elements that are opened one by one. -/
theorem open_kind {P : Type} (K : Kind P) (q : P → Prop) {t e : TypeId} {fuel : Nat} {cs : List Value} {x : DataW H × List MemPlace} (ht : Tryz.prog.underlying t = some (.slice e)) (hc : Tryz.prog.cellsOf e = K.size) (hc0 : 0 < K.size)
    (hel : ∀ (n : Nat) (l : List Value) y, DataW.trod enc Tryz.prog w base spare held n e l = some y → ∃ p : P, l = K.cells p ∧ K.rd w p ∧ q p) (h : DataW.trod enc Tryz.prog w base spare held fuel t cs = some x) :
    ∃ (v : Value) (ps : List P), cs = [v] ∧ K.At w v ps ∧ ps.length ≤ 9223372036854775807 ∧ ∀ p ∈ ps, q p := by
  obtain ⟨a, cap, n, css, rfl, hl, hL, hcs⟩ := open_row ht hc hc0 h
  obtain ⟨ps, rfl, hq⟩ := list_pre2 K.cells (fun p => K.rd w p ∧ q p) css (fun l hl => by
    obtain ⟨_, y, hy⟩ := hcs l hl
    obtain ⟨p, h1, h2, h3⟩ := hel n l y hy
    exact ⟨p, h1, h2, h3⟩)
  rw [← List.flatMap_def] at hL
  refine ⟨.slice a (ps.map K.cells).length cap, ps, rfl, ⟨a, cap, by rw [List.length_map], hL, fun p hp => (hq p hp).1⟩, by simpa using hl, fun p hp => (hq p hp).2⟩

theorem open_i64 (n : Nat) (l : List Value) (y : DataW H × List MemPlace) (h : DataW.trod enc Tryz.prog w base spare held n 2 l = some y) : ∃ p : Int, l = intK.cells p ∧ intK.rd w p ∧ True := by
  obtain ⟨k, e, _⟩ := DataW.trod_int Tryz.underlying2 h
  exact ⟨k, e, trivial, trivial⟩
theorem open_intsK {fuel : Nat} {cs : List Value} {x : DataW H × List MemPlace} (h : DataW.trod enc Tryz.prog w base spare held fuel 24 cs = some x) :
    ∃ (v : Value) (zs : List Int), cs = [v] ∧ intK.At w v zs ∧ zs.length ≤ 9223372036854775807 := by
  obtain ⟨v, ps, h1, h2, h3, _⟩ := open_kind intK (fun _ => True) Tryz.underlying24 (by kernel_rfl) (by decide) open_i64 h
  exact ⟨v, ps, h1, h2, h3⟩
theorem open_txnK (n : Nat) (l : List Value) (y : DataW H × List MemPlace) (h : DataW.trod enc Tryz.prog w base spare held n 57 l = some y) : ∃ p : TxnQ, l = txnK.cells p ∧ txnK.rd w p ∧ TxnQ.wf p := by
  obtain ⟨i, s, q, a, cap, zs, e, hz, hA⟩ := open_txnCells h
  exact ⟨⟨i, s, q, .slice a zs.length cap, zs⟩, e, actK_mk hA, hz⟩
theorem open_txnsK {fuel : Nat} {cs : List Value} {x : DataW H × List MemPlace} (h : DataW.trod enc Tryz.prog w base spare held fuel 22 cs = some x) :
    ∃ (v : Value) (ps : List TxnQ), cs = [v] ∧ txnK.At w v ps ∧ ps.length ≤ 9223372036854775807 ∧ ∀ p ∈ ps, TxnQ.wf p :=
  open_kind txnK TxnQ.wf Tryz.underlying22 (by kernel_rfl) (by decide) open_txnK h
theorem open_roundK (n : Nat) (l : List Value) (y : DataW H × List MemPlace) (h : DataW.trod enc Tryz.prog w base spare held n 59 l = some y) : ∃ p : RoundQ, l = roundK.cells p ∧ roundK.rd w p ∧ RoundQ.wf p := by
  obtain ⟨y0, y1, n, _, hl, h0, h1⟩ := trod_struct2 Tryz.underlying59 h
  rw [show Tryz.prog.cellsOf 59 = 2 by kernel_rfl] at hl
  have e : Tryz.prog.cellsOf 24 = 1 := by kernel_rfl
  match l, hl with
  | [c0, c1], _ =>
    simp only [e, List.drop_zero, List.drop_succ_cons, List.take_succ_cons, List.take_zero] at h0 h1
    obtain ⟨v0, z0, e0, a0, l0⟩ := open_intsK h0
    obtain ⟨v1, z1, e1, a1, l1⟩ := open_intsK h1
    simp only [List.cons.injEq, and_true] at e0 e1
    exact ⟨⟨v0, z0, v1, z1⟩, by rw [e0, e1]; rfl, ⟨a0, a1⟩, ⟨l0, l1⟩⟩
theorem open_roundsK {fuel : Nat} {cs : List Value} {x : DataW H × List MemPlace} (h : DataW.trod enc Tryz.prog w base spare held fuel 23 cs = some x) :
    ∃ (v : Value) (ps : List RoundQ), cs = [v] ∧ roundK.At w v ps ∧ ps.length ≤ 9223372036854775807 ∧ ∀ p ∈ ps, RoundQ.wf p :=
  open_kind roundK RoundQ.wf Tryz.underlying23 (by kernel_rfl) (by decide) open_roundK h
theorem open_instCells {fuel : Nat} {cs : List Value} {x : DataW H × List MemPlace} (h : DataW.trod enc Tryz.prog w base spare held fuel 26 cs = some x) :
    ∃ p : InstQ, cs = [.bool p.has, p.vb, p.vr, p.vd] ∧ instK.rd w p ∧ p.wf := by
  obtain ⟨y0, y1, y2, y3, n, _, hl, h0, h1, h2, h3⟩ := Go.Joins.trod_struct4 Tryz.underlying26 h
  rw [show Tryz.prog.cellsOf 26 = 4 by kernel_rfl] at hl
  have e : Tryz.prog.cellsOf 4 = 1 := by kernel_rfl
  have e' : Tryz.prog.cellsOf 22 = 1 := by kernel_rfl
  have e2 : Tryz.prog.cellsOf 23 = 1 := by kernel_rfl
  have e3 : Tryz.prog.cellsOf 24 = 1 := by kernel_rfl
  match cs, hl with
  | [c0, c1, c2, c3], _ =>
    simp only [e, e', e2, e3, List.drop_zero, List.drop_succ_cons, List.take_succ_cons, List.take_zero] at h0 h1 h2 h3
    obtain ⟨k, e0, _⟩ := DataW.trod_bool Tryz.underlying4 h0
    obtain ⟨v1, z1, e1, a1, l1, w1⟩ := open_txnsK h1
    obtain ⟨v2, z2, e2, a2, l2, w2⟩ := open_roundsK h2
    obtain ⟨v3, z3, e3, a3, l3⟩ := open_intsK h3
    simp only [List.cons.injEq, and_true] at e0 e1 e2 e3
    exact ⟨⟨k, v1, z1, v2, z2, v3, z3⟩, by rw [e0, e1, e2, e3], ⟨a1, a2, a3⟩, ⟨⟨l1, w1⟩, ⟨l2, w2⟩, l3⟩⟩
theorem open_inst {r : Reach} {b0 : Nat} {v : Value} {d : DataW H} {p : List MemPlace} (hv : Value.okWide Tryz.prog w r b0 26 v) (h : DataW.Trod enc Tryz.prog w base spare held 26 v d p) :
    ∃ q : InstQ, v = .agg #[.bool q.has, q.vb, q.vr, q.vd] ∧ instK.rd w q ∧ q.wf := by
  obtain ⟨cs, rfl, hsz⟩ := okWide_struct Tryz.underlying26 hv
  obtain ⟨fuel, hf⟩ := h
  obtain ⟨q, e, h1, h2⟩ := open_instCells hf
  refine ⟨q, ?_, h1, h2⟩
  congr 1
  apply Array.ext'
  simpa [Value.cells] using e
theorem open_txnsV {r : Reach} {b0 : Nat} {v : Value} {d : DataW H} {p : List MemPlace} (hv : Value.okWide Tryz.prog w r b0 22 v) (h : DataW.Trod enc Tryz.prog w base spare held 22 v d p) :
    ∃ ps : List TxnQ, txnK.At w v ps ∧ ps.length ≤ 9223372036854775807 ∧ ∀ p ∈ ps, TxnQ.wf p := by
  obtain ⟨a0, len0, cap0, rfl⟩ := okWide_slice Tryz.underlying22 hv
  obtain ⟨fuel, hf⟩ := h
  obtain ⟨v, ps, e, h1, h2, h3⟩ := open_txnsK hf
  simp [Value.cells] at e
  rw [← e] at h1
  exact ⟨ps, h1, h2, h3⟩

end

end Go.Proofs.YtmlkfmjenkcflaaGreatDoor

/- What the condition on the variable 'rules' gives: its block's cells, one by one. -/
namespace Go.Proofs.YtmlkfmjenkcflaaGreatDoor
open Go.RowKit Go.ChangeShapes Go.WideShapes
set_option linter.unusedVariables false
set_option maxRecDepth 100000
set_option linter.unusedSimpArgs false

theorem gRul : Tryz.prog.globalNamed "loop.example/g00631/impl.rules" = some 0 := by kernel_rfl
theorem tRul : (Tryz.prog.globals[0]?).map (·.type) = some 149 := by kernel_rfl
theorem cRule : Tryz.prog.cellsOf 140 = 7 := by kernel_rfl
theorem cCh : Tryz.prog.cellsOf 102 = 4 := by kernel_rfl
theorem cI : Tryz.prog.cellsOf 2 = 1 := by kernel_rfl
theorem cB : Tryz.prog.cellsOf 4 = 1 := by kernel_rfl

section
variable {H : Type} {enc : TypeId × Value → H} {w : World} {base : Nat} {spare : Nat → Bool} {held : Bool}

theorem choice_cells {fuel : Nat} {cs : List Value} {c v : Int} {d k : Bool} {q : List MemPlace} (h : DataW.trod enc Tryz.prog w base spare held fuel 102 cs = some (.agg [.lit (.int .i64 c), .lit (.bool d), .lit (.bool k), .lit (.int .i64 v)], q)) : cs = [.int .i64 c, .bool d, .bool k, .int .i64 v] := by
  obtain ⟨y0, y1, y2, y3, n, hx, hl, h0, h1, h2, h3⟩ := Go.Joins.trod_struct4 Tryz.underlying102 h
  rw [cCh] at hl
  simp only [Prod.mk.injEq, DataW.agg.injEq, List.cons.injEq, and_true] at hx
  obtain ⟨⟨x0, x1, x2, x3⟩, _⟩ := hx
  match cs, hl with
  | [c0, c1, c2, c3], _ =>
    simp only [cI, cB, List.drop_zero, List.drop_succ_cons, List.take_succ_cons, List.take_zero] at h0 h1 h2 h3
    obtain ⟨n0, e0, g0, _⟩ := DataW.trod_int Tryz.underlying2 h0
    obtain ⟨n1, e1, g1⟩ := DataW.trod_bool Tryz.underlying4 h1
    obtain ⟨n2, e2, g2⟩ := DataW.trod_bool Tryz.underlying4 h2
    obtain ⟨n3, e3, g3, _⟩ := DataW.trod_int Tryz.underlying2 h3
    simp only [List.cons.injEq, and_true] at e0 e1 e2 e3
    rw [g0] at x0
    rw [g1] at x1
    rw [g2] at x2
    rw [g3] at x3
    simp at x0 x1 x2 x3
    rw [e0, e1, e2, e3, x0, x1, x2, x3]

theorem rule_cells {fuel : Nat} {cs : List Value} {z o p c v : Int} {d k : Bool} {q : List MemPlace} (h : DataW.trod enc Tryz.prog w base spare held fuel 140 cs = some (.agg [.lit (.int .i64 z), .lit (.int .i64 o), .lit (.int .i64 p), .agg [.lit (.int .i64 c), .lit (.bool d), .lit (.bool k), .lit (.int .i64 v)]], q)) :
    cs = [.int .i64 z, .int .i64 o, .int .i64 p, .int .i64 c, .bool d, .bool k, .int .i64 v] := by
  obtain ⟨y0, y1, y2, y3, n, hx, hl, h0, h1, h2, h3⟩ := Go.Joins.trod_struct4 Tryz.underlying140 h
  rw [cRule] at hl
  simp only [Prod.mk.injEq, DataW.agg.injEq, List.cons.injEq, and_true] at hx
  obtain ⟨⟨x0, x1, x2, x3⟩, _⟩ := hx
  match cs, hl with
  | [c0, c1, c2, c3, c4, c5, c6], _ =>
    simp only [cI, cCh, List.drop_zero, List.drop_succ_cons, List.take_succ_cons, List.take_zero] at h0 h1 h2 h3
    obtain ⟨n0, e0, g0, _⟩ := DataW.trod_int Tryz.underlying2 h0
    obtain ⟨n1, e1, g1, _⟩ := DataW.trod_int Tryz.underlying2 h1
    obtain ⟨n2, e2, g2, _⟩ := DataW.trod_int Tryz.underlying2 h2
    obtain ⟨y30, y31⟩ := y3
    dsimp only at x3
    rw [← x3] at h3
    have e3 := choice_cells h3
    simp only [List.cons.injEq, and_true] at e0 e1 e2 e3
    rw [g0] at x0
    rw [g1] at x1
    rw [g2] at x2
    simp at x0 x1 x2
    obtain ⟨e3, e4, e5, e6⟩ := e3
    rw [e0, e1, e2, e3, e4, e5, e6, x0, x1, x2]

end

theorem rul_of_laid {W : World} (h : laidMetH Tryz.prog [("loop.example/g00631/impl.rules", Rows.laid_loop_example_g00631_impl_rules)] W) : Rul W := by
  rw [MakeChecks.laidMetH_plain _ _ _ (by kernel_rfl)] at h
  obtain ⟨g, t, cs, fuel, p, hg, ht, hvar, hd⟩ := Lib.laidMet.reads h (List.mem_singleton.2 rfl)
  obtain rfl := Option.some.inj (gRul.symm.trans hg)
  obtain rfl := Option.some.inj (tRul.symm.trans ht)
  unfold Rows.laid_loop_example_g00631_impl_rules at hd
  have e : ∀ i, i < 5 → ∃ fuel' d q, _ ∧ _ := fun i hi => Lib.array_elem Tryz.underlying149 hd i hi
  rw [cRule] at e
  obtain ⟨f0, d0, q0, r0, s0⟩ := e 0 (by omega)
  obtain ⟨f1, d1, q1, r1, s1⟩ := e 1 (by omega)
  obtain ⟨f2, d2, q2, r2, s2⟩ := e 2 (by omega)
  obtain ⟨f3, d3, q3, r3, s3⟩ := e 3 (by omega)
  obtain ⟨f4, d4, q4, r4, s4⟩ := e 4 (by omega)
  simp only [List.getElem?_cons_zero, List.getElem?_cons_succ, Option.some.injEq] at r0 r1 r2 r3 r4
  subst r0 r1 r2 r3 r4
  have t0 := rule_cells s0
  have t1 := rule_cells s1
  have t2 := rule_cells s2
  have t3 := rule_cells s3
  have t4 := rule_cells s4
  have hall : cs.toList.take 35 = rulL := by
    rw [show 35 = 0 * 7 + 7 + 7 + 7 + 7 + 7 from rfl, List.take_add, List.take_add, List.take_add, List.take_add]
    rw [show 0 * 7 + 7 + 7 + 7 + 7 = 4 * 7 from rfl, show 0 * 7 + 7 + 7 + 7 = 3 * 7 from rfl, show 0 * 7 + 7 + 7 = 2 * 7 from rfl, show 0 * 7 + 7 = 1 * 7 from rfl, t1, t2, t3, t4]
    have t0' : List.take (1 * 7) cs.toList = _ := t0
    rw [t0']
    rfl
  intro i v hv
  have hi : i < 35 := by
    have := (List.getElem?_eq_some_iff.1 hv).1
    simpa [rulL] using this
  rw [World.var?_cell hg hvar i, ← Array.getElem?_toList]
  rw [← hall, List.getElem?_take, if_pos hi] at hv
  exact hv

end Go.Proofs.YtmlkfmjenkcflaaGreatDoor

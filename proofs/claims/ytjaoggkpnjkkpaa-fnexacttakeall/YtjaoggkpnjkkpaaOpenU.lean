/- A list of undos that came in, opened; a list of such lists. No condition. -/
import Derived.Test.YtjaoggkpnjkkpaaOpen2
import Derived.Test.YtjaoggkpnjkkpaaD4s
namespace Go.Proofs.Ytjaoggkpnjkkpaa
open Go.RowKit Go.Deep Go.ChangeShapes Go.WideShapes
set_option linter.unusedVariables false
set_option linter.unusedSimpArgs false

theorem list_pre3 {α β : Type} (f : β → α) (q : β → Prop) (l : List α) (h : ∀ x ∈ l, ∃ b, x = f b ∧ q b) : ∃ bs : List β, l = bs.map f ∧ ∀ b ∈ bs, q b := by
  induction l with
  | nil => exact ⟨[], rfl, by simp⟩
  | cons x l ih =>
    obtain ⟨bs, rfl, hq⟩ := ih (fun x hx => h x (by simp [hx]))
    obtain ⟨b, rfl, hb⟩ := h x (by simp)
    exact ⟨b :: bs, rfl, by intro c hc; rcases List.mem_cons.1 hc with rfl | hc; exact hb; exact hq c hc⟩

theorem us_flat (ps : List USP) : (ps.map fun p : USP => [p.sl]).flatten = usCells ps := by
  induction ps with
  | nil => rfl
  | cons p r ih => rw [List.map_cons, List.flatten_cons, ih]; rfl

section
variable {H : Type} {enc : TypeId × Value → H} {w : World} {base : Nat} {spare : Nat → Bool} {held : Bool}

set_option maxRecDepth 100000 in
theorem open_undo {fuel : Nat} {cs : List Value} {x : DataW H × List MemPlace} (h : DataW.trod enc Try.prog w base spare held fuel 114 cs = some x) : ∃ z : UndoD, cs = z.cells := by
  obtain ⟨y0, y1, y2, n, _, hl, h0, h1, h2⟩ := trod_struct3 Try.underlying114 h
  rw [show Try.prog.cellsOf 114 = 3 by kernel_rfl] at hl
  have e : Try.prog.cellsOf 2 = 1 := by kernel_rfl
  have e' : Try.prog.cellsOf 4 = 1 := by kernel_rfl
  match cs, hl with
  | [c0, c1, c2], _ =>
    simp only [e, e', List.drop_zero, List.drop_succ_cons, List.take_succ_cons, List.take_zero] at h0 h1 h2
    obtain ⟨k, e0, _⟩ := DataW.trod_int Try.underlying2 h0
    obtain ⟨y, e1, _⟩ := DataW.trod_bool Try.underlying4 h1
    obtain ⟨v, e2, _⟩ := DataW.trod_int Try.underlying2 h2
    simp only [List.cons.injEq, and_true] at e0 e1 e2
    exact ⟨⟨k, y, v⟩, by rw [e0, e1, e2]; rfl⟩

set_option maxRecDepth 100000 in
theorem open_undoRow {fuel : Nat} {cs : List Value} {x : DataW H × List MemPlace} (h : DataW.trod enc Try.prog w base spare held fuel 61 cs = some x) :
    ∃ (a : Option Addr) (cap : Nat) (zs : List UndoD), cs = [.slice a zs.length cap] ∧ zs.length ≤ 9223372036854775807 ∧ UndoRow w a zs := by
  obtain ⟨a, cap, n, css, rfl, hl, hL, hc⟩ := open_row Try.underlying61 (show Try.prog.cellsOf 114 = 3 by kernel_rfl) (by omega) h
  obtain ⟨zs, rfl⟩ := list_pre (p := fun _ _ => True) (q := fun _ => True) UndoD.cells css (fun l hl => by obtain ⟨_, y, hy⟩ := hc l hl; exact open_undo hy)
  refine ⟨a, cap, zs, by simp, by simpa using hl, ?_⟩
  rw [← List.flatMap_def] at hL
  exact hL

set_option maxRecDepth 100000 in
theorem open_undos {r : Reach} {b0 : Nat} {v : Value} {d : DataW H} {p : List MemPlace} (hv : Value.okWide Try.prog w r b0 61 v) (h : DataW.Trod enc Try.prog w base spare held 61 v d p) :
    ∃ (a : Option Addr) (cap : Nat) (zs : List UndoD), v = .slice a zs.length cap ∧ zs.length ≤ 9223372036854775807 ∧ UndoRow w a zs := by
  obtain ⟨a0, len0, cap0, rfl⟩ := okWide_slice Try.underlying61 hv
  obtain ⟨fuel, hf⟩ := h
  obtain ⟨a, cap, zs, e, hl, hL⟩ := open_undoRow hf
  simp [Value.cells] at e
  obtain ⟨rfl, rfl, rfl⟩ := e
  exact ⟨a0, cap0, zs, rfl, hl, hL⟩

set_option maxRecDepth 100000 in
theorem open_undoss {r : Reach} {b0 : Nat} {v : Value} {d : DataW H} {p : List MemPlace} (hv : Value.okWide Try.prog w r b0 69 v) (h : DataW.Trod enc Try.prog w base spare held 69 v d p) :
    ∃ ds : List (List UndoD), UssAt w v ds ∧ ds.length ≤ 9223372036854775807 ∧ ∀ d ∈ ds, d.length ≤ 9223372036854775807 := by
  obtain ⟨a0, len0, cap0, rfl⟩ := okWide_slice Try.underlying69 hv
  obtain ⟨fuel, hf⟩ := h
  obtain ⟨a, cap, n, css, e, hl, hL, hc⟩ := open_row Try.underlying69 (show Try.prog.cellsOf 61 = 1 by kernel_rfl) (by omega) hf
  obtain ⟨ps, rfl, hq⟩ := list_pre3 (fun p : USP => [p.sl]) (fun p => p.d.length ≤ 9223372036854775807 ∧ UndoRow w p.a p.d) css (fun l hl => by
    obtain ⟨_, y, hy⟩ := hc l hl
    obtain ⟨a, cap, zs, e, hz, hR⟩ := open_undoRow hy
    exact ⟨⟨zs, a, cap⟩, e, hz, hR⟩)
  simp [Value.cells] at e
  obtain ⟨rfl, rfl, rfl⟩ := e
  rw [us_flat] at hL
  refine ⟨ps.map USP.d, ⟨a0, cap0, ps, by simp, rfl, hL, fun p hp => (hq p hp).2⟩, by simpa using hl, ?_⟩
  intro d hd
  obtain ⟨p, hp, rfl⟩ := List.mem_map.1 hd
  exact (hq p hp).1

end

end Go.Proofs.Ytjaoggkpnjkkpaa

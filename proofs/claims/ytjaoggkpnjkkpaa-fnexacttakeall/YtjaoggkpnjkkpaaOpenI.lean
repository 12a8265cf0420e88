/- A list of items that came in, opened. No condition. -/
import Derived.Test.YtjaoggkpnjkkpaaOpen2
import Derived.Test.YtjaoggkpnjkkpaaD3
namespace Go.Proofs.Ytjaoggkpnjkkpaa
open Go.RowKit Go.Deep Go.ChangeShapes Go.WideShapes
set_option linter.unusedVariables false
set_option linter.unusedSimpArgs false

section
variable {H : Type} {enc : TypeId × Value → H} {w : World} {base : Nat} {spare : Nat → Bool} {held : Bool}

set_option maxRecDepth 100000 in
theorem open_item {fuel : Nat} {cs : List Value} {x : DataW H × List MemPlace} (h : DataW.trod enc Try.prog w base spare held fuel 108 cs = some x) : ∃ z : ItemD, cs = z.cells := by
  obtain ⟨y0, y1, n, _, hl, h0, h1⟩ := trod_struct2 Try.underlying108 h
  rw [show Try.prog.cellsOf 108 = 2 by kernel_rfl] at hl
  have e : Try.prog.cellsOf 2 = 1 := by kernel_rfl
  match cs, hl with
  | [c0, c1], _ =>
    simp only [e, List.drop_zero, List.drop_succ_cons, List.take_succ_cons, List.take_zero] at h0 h1
    obtain ⟨k, e0, _⟩ := DataW.trod_int Try.underlying2 h0
    obtain ⟨y, e1, _⟩ := DataW.trod_int Try.underlying2 h1
    simp only [List.cons.injEq, and_true] at e0 e1
    exact ⟨⟨k, y⟩, by rw [e0, e1]; rfl⟩

set_option maxRecDepth 100000 in
theorem open_items {r : Reach} {b0 : Nat} {v : Value} {d : DataW H} {p : List MemPlace} (hv : Value.okWide Try.prog w r b0 47 v) (h : DataW.Trod enc Try.prog w base spare held 47 v d p) :
    ∃ (a : Option Addr) (cap : Nat) (zs : List ItemD), v = .slice a zs.length cap ∧ zs.length ≤ 9223372036854775807 ∧ ItemRow w a zs := by
  obtain ⟨a0, len0, cap0, rfl⟩ := okWide_slice Try.underlying47 hv
  obtain ⟨fuel, hf⟩ := h
  obtain ⟨a, cap, n, css, e, hl, hL, hc⟩ := open_row Try.underlying47 (show Try.prog.cellsOf 108 = 2 by kernel_rfl) (by omega) hf
  obtain ⟨zs, rfl⟩ := list_pre (p := fun _ _ => True) (q := fun _ => True) ItemD.cells css (fun l hl => by obtain ⟨_, y, hy⟩ := hc l hl; exact open_item hy)
  simp [Value.cells] at e
  obtain ⟨rfl, rfl, rfl⟩ := e
  refine ⟨a0, cap0, zs, by simp, by simpa using hl, ?_⟩
  rw [← List.flatMap_def] at hL
  exact hL

end

end Go.Proofs.Ytjaoggkpnjkkpaa

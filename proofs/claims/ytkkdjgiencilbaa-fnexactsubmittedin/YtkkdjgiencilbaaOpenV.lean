/- A list of votes that came in, opened. No condition. -/
import Derived.Test.YtkkdjgiencilbaaOpen2
import Derived.Test.YtkkdjgiencilbaaV10
namespace Go.Proofs.Ytkkdjgiencilbaa
open Go.RowKit Go.Deep Go.ChangeShapes Go.WideShapes
set_option linter.unusedVariables false
set_option linter.unusedSimpArgs false

section
variable {H : Type} {enc : TypeId × Value → H} {w : World} {base : Nat} {spare : Nat → Bool} {held : Bool}

set_option maxRecDepth 100000 in
theorem open_vote {fuel : Nat} {cs : List Value} {x : DataW H × List MemPlace} (h : DataW.trod enc Try.prog w base spare held fuel 38 cs = some x) : ∃ z : VoteD, cs = z.cells := by
  obtain ⟨y0, y1, y2, y3, n, _, hl, h0, h1, h2, h3⟩ := Go.Joins.trod_struct4 Try.underlying38 h
  rw [show Try.prog.cellsOf 38 = 4 by kernel_rfl] at hl
  have e : Try.prog.cellsOf 2 = 1 := by kernel_rfl
  match cs, hl with
  | [c0, c1, c2, c3], _ =>
    simp only [e, List.drop_zero, List.drop_succ_cons, List.take_succ_cons, List.take_zero] at h0 h1 h2 h3
    obtain ⟨k, e0, _⟩ := DataW.trod_int Try.underlying2 h0
    obtain ⟨y, e1, _⟩ := DataW.trod_int Try.underlying2 h1
    obtain ⟨z, e2, _⟩ := DataW.trod_int Try.underlying2 h2
    obtain ⟨u, e3, _⟩ := DataW.trod_int Try.underlying2 h3
    simp only [List.cons.injEq, and_true] at e0 e1 e2 e3
    exact ⟨⟨k, y, z, u⟩, by rw [e0, e1, e2, e3]; rfl⟩

set_option maxRecDepth 100000 in
theorem open_voteV {r : Reach} {b0 : Nat} {v : Value} {d : DataW H} {p : List MemPlace} (hv : Value.okWide Try.prog w r b0 38 v) (h : DataW.Trod enc Try.prog w base spare held 38 v d p) :
    ∃ k r n y : Int, v = .agg #[.int .i64 k, .int .i64 r, .int .i64 n, .int .i64 y] := by
  obtain ⟨cs, rfl, hsz⟩ := okWide_struct Try.underlying38 hv
  obtain ⟨fuel, hf⟩ := h
  obtain ⟨z, hz⟩ := open_vote hf
  obtain ⟨k, r, n, y⟩ := z
  refine ⟨k, r, n, y, ?_⟩
  congr 1
  apply Array.ext'
  simpa [Value.cells, VoteD.cells] using hz

end

end Go.Proofs.Ytkkdjgiencilbaa

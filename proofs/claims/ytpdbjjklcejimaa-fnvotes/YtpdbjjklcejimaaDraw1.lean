/- What the draws of chapter 1 tell at whatever bytes: some number, some bytes or some list in their bounds; nothing that was there is written into. -/
import Derived.Test.YtpdbjjklcejimaaPack
import Derived.Test.YtpdbjjklcejimaaDraw
namespace Go.Proofs.Ytpdbjjklcejimaa
open Go.RowKit
set_option linter.unusedVariables false
set_option linter.unusedSimpArgs false

/-- What is written into rows other than the source's, and into new memory, leaves the source. -/
theorem Src.grown {B b T : Nat} {w w' : World} {row : Option Nat} (h : Src B w b T) (hg : w.grownBy w' row) (hne : some b ≠ row) (hB : ∀ k, row = some k → B ≤ k) : Src B w' b T :=
  h.kept hg.size (hg.block b h.lt.2 hne) (fun k hk => hg.block k (by have := h.lt; omega) (fun e => by have := hB k e.symm; omega))

theorem grown_of_below {w w' : World} (h : Below w.heap.size w w') (row : Option Nat) : w.grownBy w' row := ⟨h.os, h.tape, h.output, h.size, fun k hk _ => h.block k hk⟩

theorem below_of_src {w w' w1 : World} {b : Nat} (hb : Below w.heap.size w w1) (hg : w1.grownBy w' (some b)) (h : w.heap.size ≤ b) : Below w.heap.size w w' :=
  hb.grown hg hb.size (fun k hk => by simp at hk; omega)

end Go.Proofs.Ytpdbjjklcejimaa

/- What the draws of chapter 2 tell at whatever bytes: some act, some transaction; nothing that was there is written into, the source's own memory aside. -/
import Derived.Test.YtpdbjjklcejimaaDraw1
import Derived.Test.YtpdbjjklcejimaaBlk
import Derived.Test.YtpdbjjklcejimaaD2t
import Derived.Test.YtpdbjjklcejimaaTextX
import Derived.Lib.SmallJoins
namespace Go.Proofs.Ytpdbjjklcejimaa
open Go.RowKit
open Go.BigFrame
set_option linter.unusedVariables false
set_option linter.unusedSimpArgs false

theorem grown_low {w wr w' : World} {b : Nat} (hg : w.grownBy wr (some b)) (hb : Below w.heap.size wr w') : w.grownBy w' (some b) :=
  ⟨hb.os.trans hg.os, hb.tape.trans hg.tape, hb.output.trans hg.output, by have := hg.size; have := hb.size; omega, fun k hk hne => (hb.block k hk).trans (hg.block k hk hne)⟩

theorem Src.low {B b T N : Nat} {w w' : World} (h : Src B w b T) (hb : Below N w w') (hN : b < N) : Src B w' b T :=
  h.kept hb.size (hb.block b hN) (fun k hk => hb.block k (by have := h.lt; omega))

theorem actCells_snoc' (xs : List ActD) (z : ActD) : actCells (xs ++ [z]) = actCells xs ++ [.int .i64 z.kind, .int .i64 z.key, .int .i64 z.val] := by simp [actCells, ActD.cells]

end Go.Proofs.Ytpdbjjklcejimaa

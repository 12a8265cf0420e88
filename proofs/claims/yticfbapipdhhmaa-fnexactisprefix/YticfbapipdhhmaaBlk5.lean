/- A block that is known whole: one cell of it written over. No condition. -/
import Derived.Test.YticfbapipdhhmaaBlk
import Derived.Lib.SmallJoins
namespace Go.Proofs.Yticfbapipdhhmaa
open Go.RowKit
set_option linter.unusedVariables false
set_option linter.unusedSimpArgs false

theorem Blk.set {w : World} {b : Nat} {t : TypeId} {cs : Array Value} (h : Blk w b t cs) (j : Nat) (x : Value) : Blk (w.setCell ⟨b, j, none⟩ x) b t (cs.setIfInBounds j x) := Go.Joins.block_setCell (i := j) (v := x) h
theorem Blk.other {w : World} {b b' : Nat} {t : TypeId} {cs : Array Value} (h : Blk w b t cs) (hne : b ≠ b') (j : Nat) (x : Value) : Blk (w.setCell ⟨b', j, none⟩ x) b t cs := (Below.heap_setCell w ⟨b', j, none⟩ x b hne).trans h

end Go.Proofs.Yticfbapipdhhmaa

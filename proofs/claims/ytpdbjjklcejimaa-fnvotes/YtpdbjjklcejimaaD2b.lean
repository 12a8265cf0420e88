/- What the helpers of the laws on lists of acts do: they compare, mark, and look for marks. -/
import Derived.Test.YtpdbjjklcejimaaD2
import Derived.Test.YtpdbjjklcejimaaText
namespace Go.Proofs.Ytpdbjjklcejimaa
open Go.RowKit
open Go.BigFrame
set_option linter.unusedVariables false
set_option linter.unusedSimpArgs false

theorem lat_cell {w : World} {a : Addr} {v : Value} (h : w.cell? a = some v) : ∀ u : Lat w, u.val.cell? a = some v := fun u => by
  rw [u.isBelow.cell (World.block_lt_of_cell? w a h)]; exact h

theorem grown3 {w wr : World} {g k : Nat} {v0 v1 v2 : Value} (h : w.grownBy wr (some g)) : w.grownBy (((wr.setCell ⟨g, k, none⟩ v0).setCell ⟨g, k + 1, none⟩ v1).setCell ⟨g, k + 2, none⟩ v2) (some g) := by
  have one : ∀ (u : World) (j : Nat) (v : Value), w.grownBy u (some g) → w.grownBy (u.setCell ⟨g, j, none⟩ v) (some g) := fun u j v h =>
    ⟨h.os, h.tape, h.output, by simpa [World.setCell] using h.size, fun i hi hne => by rw [Below.heap_setCell _ _ _ _ (by intro e; apply hne; simp [e])]; exact h.block i hi hne⟩
  exact one _ _ _ (one _ _ _ (one _ _ _ h))

/-- Marks, three cells an act. -/
def actMarks (c : Int) (n : Nat) : List ActD := (List.range n).map fun (i : Nat) => ⟨c + ((i * 3 : Nat) : Int), c + ((i * 3 + 1 : Nat) : Int), c + ((i * 3 + 2 : Nat) : Int)⟩
theorem actMarks_length (c : Int) (n : Nat) : (actMarks c n).length = n := by simp [actMarks]
theorem actMarks_getD (c : Int) (n i : Nat) (h : i < n) : (actMarks c n).getD i actNo = ⟨c + ((i * 3 : Nat) : Int), c + ((i * 3 + 1 : Nat) : Int), c + ((i * 3 + 2 : Nat) : Int)⟩ := by simp [actMarks, List.getD, h]

end Go.Proofs.Ytpdbjjklcejimaa

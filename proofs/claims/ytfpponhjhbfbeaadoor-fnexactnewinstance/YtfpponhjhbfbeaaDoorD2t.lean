/- What the helpers of the laws on transactions do: they count, copy, compare, mark, and look for marks. -/
import Derived.Test.YtfpponhjhbfbeaaDoorD2b
namespace Go.Proofs.YtfpponhjhbfbeaaDoor
open Go.RowKit
set_option linter.unusedVariables false
set_option linter.unusedSimpArgs false

theorem below_from {w W w' : World} (h : Below w.heap.size w W) (hb : Below W.heap.size W w') : Below w.heap.size w w' := h.trans (hb.mono h.size)

theorem grown_from {w W w' : World} {r : Option Nat} (h : Below w.heap.size w W) (hg : W.grownBy w' r) : w.grownBy w' r :=
  ⟨hg.os.trans h.os, hg.tape.trans h.tape, hg.output.trans h.output, Nat.le_trans h.size hg.size, fun i hi hne => (hg.block i (Nat.lt_of_lt_of_le hi h.size) hne).trans (h.block i hi)⟩

set_option maxHeartbeats 1000000 in
theorem eqTxn_true (i s q : Int) (a a' : Option Addr) (cap cap' : Nat) (zs : List ActD) (w : World) (h : ActRow w a zs) (h' : ActRow w a' zs) (hl : zs.length ≤ 1099511627776) :
    Calls Tryd.prog 32 #[.agg #[.int .i64 i, .int .i64 s, .int .i64 q, .slice a zs.length cap], .agg #[.int .i64 i, .int .i64 s, .int .i64 q, .slice a' zs.length cap']] w fun e w' => e = .returned (.bool true) ∧ Below w.heap.size w w' := by
  have h0 : (i != i) = false := by simp
  have h1 : (s != s) = false := by simp
  have h2 : (q != q) = false := by simp
  go_enter Tryd.func32, Tryd.ntmps32
  go_wp2_with (go_at_call 37; refine (eqActS_true a a' cap cap' zs _ (h.below (by go_grown)) (h'.below (by go_grown)) hl).mono ?_; rintro e w' ⟨rfl, hb⟩)
  go_ret
  exact ⟨rfl, below_from (by go_grown) hb⟩

end Go.Proofs.YtfpponhjhbfbeaaDoor

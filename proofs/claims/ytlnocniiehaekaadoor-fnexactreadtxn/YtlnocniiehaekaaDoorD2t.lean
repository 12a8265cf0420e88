/- What the helpers of the laws on transactions do: they count, copy, compare, mark, and look for marks. -/
import Derived.Test.YtlnocniiehaekaaDoorD2b
namespace Go.Proofs.YtlnocniiehaekaaDoor
open Go.RowKit
set_option linter.unusedVariables false
set_option linter.unusedSimpArgs false

theorem below_from {w W w' : World} (h : Below w.heap.size w W) (hb : Below W.heap.size W w') : Below w.heap.size w w' := h.trans (hb.mono h.size)

theorem grown_from {w W w' : World} {r : Option Nat} (h : Below w.heap.size w W) (hg : W.grownBy w' r) : w.grownBy w' r :=
  ⟨hg.os.trans h.os, hg.tape.trans h.tape, hg.output.trans h.output, Nat.le_trans h.size hg.size, fun i hi hne => (hg.block i (Nat.lt_of_lt_of_le hi h.size) hne).trans (h.block i hi)⟩

set_option maxHeartbeats 1000000 in
theorem eqTxn_true (i s q : Int) (a a' : Option Addr) (cap cap' : Nat) (zs : List ActD) (w : World) (h : ActRow w a zs) (h' : ActRow w a' zs) (hl : zs.length ≤ 1099511627776) :
    Calls Tryd.prog 48 #[.agg #[.int .i64 i, .int .i64 s, .int .i64 q, .slice a zs.length cap], .agg #[.int .i64 i, .int .i64 s, .int .i64 q, .slice a' zs.length cap']] w fun e w' => e = .returned (.bool true) ∧ Below w.heap.size w w' := by
  have h0 : (i != i) = false := by simp
  have h1 : (s != s) = false := by simp
  have h2 : (q != q) = false := by simp
  go_enter Tryd.func48, Tryd.ntmps48
  go_wp2_with (go_at_call 63; refine (eqActS_true a a' cap cap' zs _ (h.below (by go_grown)) (h'.below (by go_grown)) hl).mono ?_; rintro e w' ⟨rfl, hb⟩)
  go_ret
  exact ⟨rfl, below_from (by go_grown) hb⟩

set_option maxHeartbeats 1000000 in
theorem markTxn_any (i s q : Int) (base : Nat) (v : Value) (n : Nat) (xs : List Value) (c : Int) (w : World) (h : w.ownsRow base 57 3 v n xs) (hn : n ≤ 1099511627776) (h0 : 0 ≤ c) (h1 : c ≤ 1099511627776) :
    Calls Tryd.prog 49 #[.agg #[.int .i64 i, .int .i64 s, .int .i64 q, v], .int .i64 c] w fun e w' => e = .returned (.int .i64 (c + ((n * 3 : Nat) : Int))) ∧ w'.ownsRow base 57 3 v n (actCells (actMarks c n)) ∧ w.grownBy w' v.ownBlock := by
  obtain ⟨a, k, rfl⟩ := own_shape h
  go_enter Tryd.func49, Tryd.ntmps49
  go_wp2_with (go_at_call 64; refine (markActS_any base _ n xs c _ (own_below h (by go_grown)) hn h0 h1).mono ?_; rintro e w' ⟨rfl, ho, hg⟩)
  go_ret
  exact ⟨rfl, ho, grown_from (by go_grown) hg⟩

set_option maxHeartbeats 1000000 in
theorem heldTxn_true (i s q : Int) (a : Option Addr) (n cap : Nat) (c : Int) (w : World) (h : ActRow w a (actMarks c n)) (hn : n ≤ 1099511627776) (h0 : 0 ≤ c) (h1 : c ≤ 1099511627776) :
    Calls Tryd.prog 50 #[.agg #[.int .i64 i, .int .i64 s, .int .i64 q, .slice a n cap], .int .i64 c] w fun e w' => e = .returned (.int .i64 (c + ((n * 3 : Nat) : Int))) ∧ Below w.heap.size w w' := by
  have hnn : ¬ c + ((n * 3 : Nat) : Int) < 0 := by omega
  have hh := fun w h => heldActS_true a n cap c w h hn h0 h1
  generalize c + ((n * 3 : Nat) : Int) = r at hh hnn
  go_enter Tryd.func50, Tryd.ntmps50
  go_wp2_with (go_at_call 65; refine (hh _ (h.below (by go_grown))).mono ?_; rintro e w' ⟨rfl, rfl⟩)
  go_ret
  exact ⟨rfl, by go_grown⟩

end Go.Proofs.YtlnocniiehaekaaDoor

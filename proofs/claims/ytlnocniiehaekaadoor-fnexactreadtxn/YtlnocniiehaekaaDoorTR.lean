/- What the helpers of the laws do on an answer with a transaction: they tell alike answers alike, mark the answer's memory and find the marks. -/
import Derived.Test.YtlnocniiehaekaaDoorD2t
namespace Go.Proofs.YtlnocniiehaekaaDoor
open Go.RowKit
set_option linter.unusedVariables false
set_option linter.unusedSimpArgs false

set_option maxHeartbeats 1000000 in
theorem eqTR_true (d i s q : Int) (a a' : Option Addr) (cap cap' : Nat) (zs : List ActD) (w : World) (h : ActRow w a zs) (h' : ActRow w a' zs) (hl : zs.length ≤ 1099511627776) :
    Calls Tryd.prog 21 #[.agg #[.int .i64 d, .int .i64 i, .int .i64 s, .int .i64 q, .slice a zs.length cap], .agg #[.int .i64 d, .int .i64 i, .int .i64 s, .int .i64 q, .slice a' zs.length cap']] w fun e w' => e = .returned (.bool true) ∧ Below w.heap.size w w' := by
  have h0 : (d != d) = false := by simp
  go_enter Tryd.func21, Tryd.ntmps21
  go_wp2_with (go_at_call 48; refine (eqTxn_true i s q a a' cap cap' zs _ (h.below (by go_grown)) (h'.below (by go_grown)) hl).mono ?_; rintro e w' ⟨rfl, hb⟩)
  go_ret
  exact ⟨rfl, below_from (by go_grown) hb⟩

set_option maxHeartbeats 1000000 in
theorem markTR_any (base : Nat) (d i s q : Int) (v : Value) (n : Nat) (xs : List Value) (c : Int) (w : World) (h : w.ownsRow base 57 3 v n xs) (hn : n ≤ 1099511627776) (h0 : 0 ≤ c) (h1 : c ≤ 1099511627776) :
    Calls Tryd.prog 24 #[.agg #[.int .i64 d, .int .i64 i, .int .i64 s, .int .i64 q, v], .int .i64 c] w fun e w' => e = .returned (.int .i64 (c + ((n * 3 : Nat) : Int))) ∧ w'.ownsRow base 57 3 v n (actCells (actMarks c n)) ∧ w.grownBy w' v.ownBlock := by
  obtain ⟨a, k, rfl⟩ := own_shape h
  go_enter Tryd.func24, Tryd.ntmps24
  go_wp2_with (go_at_call 49; refine (markTxn_any i s q base _ n xs c _ (own_below h (by go_grown)) hn h0 h1).mono ?_; rintro e w' ⟨rfl, ho, hg⟩)
  go_ret
  exact ⟨rfl, ho, grown_from (by go_grown) hg⟩

set_option maxHeartbeats 1000000 in
theorem heldTR_true (d i s q : Int) (a : Option Addr) (n cap : Nat) (c : Int) (w : World) (h : ActRow w a (actMarks c n)) (hn : n ≤ 1099511627776) (h0 : 0 ≤ c) (h1 : c ≤ 1099511627776) :
    Calls Tryd.prog 25 #[.agg #[.int .i64 d, .int .i64 i, .int .i64 s, .int .i64 q, .slice a n cap], .int .i64 c] w fun e w' => e = .returned (.int .i64 (c + ((n * 3 : Nat) : Int))) ∧ Below w.heap.size w w' := by
  have hnn : ¬ c + ((n * 3 : Nat) : Int) < 0 := by omega
  have hh := fun w h => heldTxn_true i s q a n cap c w h hn h0 h1
  generalize c + ((n * 3 : Nat) : Int) = r at hh hnn
  go_enter Tryd.func25, Tryd.ntmps25
  go_wp2_with (go_at_call 50; refine (hh _ (h.below (by go_grown))).mono ?_; rintro e w' ⟨rfl, hb⟩)
  go_ret
  exact ⟨rfl, below_from (by go_grown) hb⟩

end Go.Proofs.YtlnocniiehaekaaDoor

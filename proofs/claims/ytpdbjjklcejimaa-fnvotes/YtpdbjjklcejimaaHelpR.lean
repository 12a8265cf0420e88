/- What the helpers of the laws on whole answers do (a code beside a number, bytes or a list of numbers): they tell alike answers alike, mark an answer's memory and find the marks. No condition but that the lists can be read and are not longer than 2^40. -/
import Derived.Test.YtpdbjjklcejimaaHelpB
import Derived.Test.YtpdbjjklcejimaaHelpI
namespace Go.Proofs.Ytpdbjjklcejimaa
open Go.RowKit
set_option linter.unusedVariables false
set_option linter.unusedSimpArgs false

set_option maxHeartbeats 1000000 in
theorem eqBR_true (c : Int) (a a' : Option Addr) (cap cap' : Nat) (zs : List Int) (w : World) (h : Row .u8 w a zs) (h' : Row .u8 w a' zs) (hl : zs.length ≤ 1099511627776) :
    Calls Try.prog 20 #[.agg #[.int .i64 c, .slice a zs.length cap], .agg #[.int .i64 c, .slice a' zs.length cap']] w fun e w' => e = .returned (.bool true) ∧ Below w.heap.size w w' := by
  have h1 : (c != c) = false := by simp
  go_enter Try.func20, Try.ntmps20
  go_wp2_with fail
  refine (eqB_true _ _ _ _ zs _ (h.below (by go_grown)) (h'.below (by go_grown)) hl).mono ?_
  rintro e w' ⟨rfl, n, rfl⟩
  go_wp2
  go_ret
  exact ⟨rfl, below_drewN (by go_grown) _⟩

set_option maxHeartbeats 1000000 in
theorem markBR_any (base : Nat) (d : Int) (v : Value) (n : Nat) (xs : List Value) (c : Int) (w : World) (h : w.ownsRow base 5 1 v n xs) (hn : n ≤ 1099511627776) (h0 : 0 ≤ c) (h1 : c ≤ 1099511627776) :
    Calls Try.prog 21 #[.agg #[.int .i64 d, v], .int .i64 c] w fun e w' => e = .returned (.int .i64 (c + n)) ∧ w'.ownsRow base 5 1 v n ((marks .u8 c n).map (Value.int .u8)) ∧ w.grownBy w' v.ownBlock := by
  obtain ⟨a, k, rfl⟩ := own_shape h
  go_enter Try.func21, Try.ntmps21
  go_wp2_with fail
  refine (markB_any base _ n xs c _ (h.alloc _) hn h0 h1).mono ?_
  rintro e w' ⟨rfl, ho, hg⟩
  go_wp2
  go_ret
  exact ⟨rfl, ho, (World.grownBy_alloc w _ _).trans hg⟩

set_option maxHeartbeats 1000000 in
theorem heldBR_true (d : Int) (a : Option Addr) (n cap : Nat) (c : Int) (w : World) (h : Row .u8 w a (marks .u8 c n)) (hn : n ≤ 1099511627776) (h0 : 0 ≤ c) (h1 : c ≤ 1099511627776) :
    Calls Try.prog 22 #[.agg #[.int .i64 d, .slice a n cap], .int .i64 c] w fun e w' => e = .returned (.int .i64 (c + n)) ∧ Below w.heap.size w w' := by
  go_enter Try.func22, Try.ntmps22
  go_wp2_with fail
  refine (heldB_true _ n _ c _ (h.below (by go_grown)) hn h0 h1).mono ?_
  rintro e w' ⟨rfl, rfl⟩
  go_wp2
  go_ret
  exact ⟨rfl, by go_grown⟩

end Go.Proofs.Ytpdbjjklcejimaa

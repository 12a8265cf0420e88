/- What the helpers of the laws do on answers with items: they tell alike answers alike, mark the answer's memory and find the marks. -/
import Derived.Test.YtjaoggkpnjkkpaaU3
namespace Go.Proofs.Ytjaoggkpnjkkpaa
open Go.RowKit
set_option linter.unusedVariables false
set_option linter.unusedSimpArgs false

set_option maxHeartbeats 1000000 in
theorem eqItR_true (d v : Int) (a a' : Option Addr) (cap cap' : Nat) (zs : List ItemD) (w : World) (h : ItemRow w a zs) (h' : ItemRow w a' zs) (hl : zs.length ≤ 1048576) :
    Calls Try.prog 37 #[.agg #[.int .i64 d, .int .i64 v, .slice a zs.length cap], .agg #[.int .i64 d, .int .i64 v, .slice a' zs.length cap']] w fun e w' => e = .returned (.bool true) ∧ Below w.heap.size w w' := by
  have h0 : (d != d) = false := by simp
  have h1 : (v != v) = false := by simp
  go_enter Try.func37, Try.ntmps37
  go_wp2_with (go_at_call 28; refine (eqItemS_true a a' cap cap' zs _ (h.below (by go_grown)) (h'.below (by go_grown)) (by omega)).mono ?_; rintro e w' ⟨rfl, hb⟩)
  go_ret
  exact ⟨rfl, below_from (by go_grown) hb⟩

set_option maxHeartbeats 1000000 in
theorem markItR_any (lo hi : Nat) (d e : Int) (v : Value) (n : Nat) (xs : List Value) (c : Int) (w : World) (h : OwnS 94 2 lo hi w v n xs) (hn : n ≤ 1048576) (h0 : 0 ≤ c) (h1 : c ≤ 1048576) :
    Calls Try.prog 39 #[.agg #[.int .i64 d, .int .i64 e, v], .int .i64 c] w fun e w' => e = .returned (.int .i64 (c + ((n * 2 : Nat) : Int))) ∧ OwnS 94 2 lo hi w' v n (itemCells (itemMarks c n)) ∧ Only lo hi w w' := by
  obtain ⟨a, k, rfl⟩ := own_shape h.1
  go_enter Try.func39, Try.ntmps39
  go_wp2_with (go_at_call 30; refine (markItemS_any lo _ n xs c _ (own_below h.1 (by go_grown)) (by omega) h0 (by omega)).mono ?_; rintro e w' ⟨rfl, ho, hg⟩)
  go_ret
  exact ⟨rfl, ⟨ho, h.2⟩, h.grown (grown_from (by go_grown) hg)⟩

set_option maxHeartbeats 1000000 in
theorem heldItR_true (d v : Int) (a : Option Addr) (n cap : Nat) (c : Int) (w : World) (h : ItemRow w a (itemMarks c n)) (hn : n ≤ 1048576) (h0 : 0 ≤ c) (h1 : c ≤ 1048576) :
    Calls Try.prog 40 #[.agg #[.int .i64 d, .int .i64 v, .slice a n cap], .int .i64 c] w fun e w' => e = .returned (.int .i64 (c + ((n * 2 : Nat) : Int))) ∧ Below w.heap.size w w' := by
  have hnn : ¬ c + ((n * 2 : Nat) : Int) < 0 := by omega
  have hh := fun w h => heldItemS_true a n cap c w h (by omega) h0 (by omega)
  generalize c + ((n * 2 : Nat) : Int) = r at hh hnn
  go_enter Try.func40, Try.ntmps40
  go_wp2_with (go_at_call 76; refine (hh _ (h.below (by go_grown))).mono ?_; rintro e w' ⟨rfl, rfl⟩)
  go_ret
  exact ⟨rfl, by go_grown⟩

end Go.Proofs.Ytjaoggkpnjkkpaa

/- Two choices that are alike are told alike. -/
import Derived.Test.YtfpponhjhbfbeaaDoorBlk5
namespace Go.Proofs.YtfpponhjhbfbeaaDoor
open Go.RowKit
set_option linter.unusedVariables false
set_option linter.unusedSimpArgs false

set_option maxHeartbeats 1000000 in
theorem eqCH_true (c : Int) (d k : Bool) (v : Int) (w : World) :
    Calls Tryd.prog 12 #[.agg #[.int .i64 c, .bool d, .bool k, .int .i64 v], .agg #[.int .i64 c, .bool d, .bool k, .int .i64 v]] w fun e w' => e = .returned (.bool true) ∧ Below w.heap.size w w' := by
  have h1 : (c != c) = false := by simp
  have h2 : (v != v) = false := by simp
  have h3 : (d != d) = false := by simp
  have h4 : (k != k) = false := by simp
  go_enter Tryd.func12, Tryd.ntmps12
  go_wp2
  go_ret
  exact ⟨rfl, by go_grown⟩

end Go.Proofs.YtfpponhjhbfbeaaDoor

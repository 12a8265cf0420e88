/- What the helpers of the laws on whole answers do (a code beside a number, bytes or a list of numbers): they tell alike answers alike, mark an answer's memory and find the marks. No condition but that the lists can be read and are not longer than 2^40. -/
import Derived.Test.YtbdphnmkpkgdeaaHelpB
import Derived.Test.YtbdphnmkpkgdeaaHelpI
namespace Go.Proofs.Ytbdphnmkpkgdeaa
open Go.RowKit
set_option linter.unusedVariables false
set_option linter.unusedSimpArgs false

set_option maxHeartbeats 1000000 in
theorem eqIR_true (c v : Int) (w : World) :
    Calls Try.prog 35 #[.agg #[.int .i64 c, .int .i64 v], .agg #[.int .i64 c, .int .i64 v]] w fun e w' => e = .returned (.bool true) ∧ Below w.heap.size w w' := by
  have h1 : (c != c) = false := by simp
  have h2 : (v != v) = false := by simp
  go_enter Try.func35, Try.ntmps35
  go_wp2
  go_ret
  exact ⟨rfl, by go_grown⟩

end Go.Proofs.Ytbdphnmkpkgdeaa

/- The law FnExactIsQuorum, walked: at every int64 it answers true, and it writes into nothing that was there. -/
import Derived.Test.YtonkbpnchcgmmaaS5s
namespace Go.Proofs.Ytonkbpnchcgmmaa
open Go.RowKit
set_option linter.unusedVariables false
set_option linter.unusedSimpArgs false

set_option maxHeartbeats 2000000 in
theorem isQuorumLaw (m : Int) (w : World) :
    Calls Try.prog 4 #[.int .i64 m] w fun e w' => e = .returned (.bool true) ∧ Below w.heap.size w w' := by
  have hsp := specQuorum_any m
  have him := isQuorum_any m
  generalize isQ m = E at hsp him
  have hne : (E != E) = false := by simp
  go_enter Try.func4, Try.ntmps4
  go_wp2_with fail
  refine (hsp w).mono ?_
  rintro e w1 ⟨rfl, b1⟩
  go_wp2_with fail
  refine (him w1).mono ?_
  rintro e w2 ⟨rfl, hw⟩
  replace hw := hw.symm
  subst hw
  go_wp2
  go_ret
  exact ⟨rfl, b1⟩

end Go.Proofs.Ytonkbpnchcgmmaa

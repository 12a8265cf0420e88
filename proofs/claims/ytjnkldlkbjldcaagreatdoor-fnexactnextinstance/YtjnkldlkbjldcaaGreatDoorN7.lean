/- A right instance is small; what GoOn leaves is. -/
import Derived.Test.YtjnkldlkbjldcaaGreatDoorM6s
import Derived.Test.YtjnkldlkbjldcaaGreatDoorN7s
namespace Go.Proofs.YtjnkldlkbjldcaaGreatDoor
open Go.RowKit
open Go.BigFrame
set_option linter.unusedVariables false
set_option maxRecDepth 100000
set_option linter.unusedSimpArgs false

theorem ensR_n (rs : List RoundE) (r : Nat) : roundsN (ensR rs r) ≤ roundsN rs + 7 := by
  unfold ensR
  split
  · unfold roundsN nmL
    simp [RoundE.n, opn3]
    omega
  · omega
theorem rpI_n (rs : List RoundE) (nx n : Nat) (v : Int) : roundsN (rpI rs nx n v) ≤ roundsN rs + 7 := by
  unfold rpI
  split
  · rw [rstR_n]
    exact ensR_n rs nx
  · omega
theorem goI_n {q p : InstQ} {node round mask coin : Int} (h : q.e = goI p.e node round mask coin) (hp : p.n ≤ 1048576) : q.n ≤ 1048576 := by
  rw [inst_ne] at hp ⊢
  rw [h]
  by_cases hc : goC p.e node round mask coin = 0
  · have hat : atC p.e node round = 0 := by
      rcases Decidable.em (atC p.e node round = 0) with h0 | h0
      · exact h0
      · have := ((go_facts p.e node round mask coin).1 h0).1
        rw [hc] at this
        exact this.symm
    have hs := ins_small (at_zero hat).1
    unfold goI
    rw [if_pos hc]
    have hr := rpI_n p.e.rounds (round.toNat + 1) node.toNat (cfV (p.e.rounds.getD round.toNat rnd0).pro mask (coF p.e.has coin))
    unfold InstE.n at hs ⊢
    dsimp only
    split
    · rw [List.length_set]
      omega
    · omega
  · unfold goI
    rw [if_neg hc, ine0_n]
    omega

end Go.Proofs.YtjnkldlkbjldcaaGreatDoor

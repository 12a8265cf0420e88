/- The helpers of the laws on lists of votes, in one form. No condition. -/
import Derived.Test.YtpdbjjklcejimaaU3
import Derived.Test.YtpdbjjklcejimaaV10
namespace Go.Proofs.Ytpdbjjklcejimaa
open Go.RowKit
set_option linter.unusedVariables false
set_option linter.unusedSimpArgs false

theorem szVotes_u (a : Option Addr) (n cap : Nat) (c : Int) (w : World) (hn : n ≤ 9223372036854775807) (h0 : 0 ≤ c) (h1 : c ≤ 1048576) :
    Calls Try.prog 26 #[.slice a n cap, .int .i64 c] w fun e w' => ∃ s : Int, e = .returned (.int .i64 s) ∧ (¬ s < 0 → (n : Int) + s = c) ∧ Below w.heap.size w w' := by
  refine (szVoteS_any a n cap c w hn h0 (by omega)).mono ?_
  rintro e w' ⟨rfl, rfl⟩
  refine ⟨_, rfl, ?_, Below.refl _ _⟩
  split <;> omega

theorem toVotes_u (a : Option Addr) (cap : Nat) (zs : List VoteD) (w : World) (h : VoteRow w a zs) (hl : zs.length ≤ 1048576) :
    Calls Try.prog 28 #[.slice a zs.length cap] w fun e w' => ∃ a' c', e = .returned (.slice a' zs.length c') ∧ OwnS 26 4 w.heap.size w'.heap.size w' (.slice a' zs.length c') zs.length (voteCells zs) ∧ Below w.heap.size w w' := by
  refine (toVoteS_any a cap zs w h hl).mono ?_
  rintro e w' ⟨g, c, rfl, o, hb⟩
  exact ⟨_, _, rfl, OwnS.of o, hb⟩

end Go.Proofs.Ytpdbjjklcejimaa

/- VoteFault: the program's function and its model answer alike, by one plain function. No condition. -/
import Derived.Test.YtpjmlidbligcbaaGreatDoorV10
import Derived.Test.YtpjmlidbligcbaaGreatDoorGB
namespace Go.Proofs.YtpjmlidbligcbaaGreatDoor
open Go.RowKit
set_option linter.unusedVariables false
set_option maxRecDepth 100000
set_option linter.unusedSimpArgs false

def vtM (k : Int) : Int := if (k == 2) = true then 2 else 1

def voteF (x : VoteD) : Int :=
  if (inW x.kind 1 3 = false) ∨ ((x.kind == 3) = true ∧ (x.round != 0) = true) then 1
  else if inW x.round 0 3 = false ∨ inW x.node 0 2 = false ∨ inW x.value 0 (vtM x.kind) = false then 3 else 0

/-- The ways through a vote's tests. -/
theorem voteF_ways (k r n v : Int) :
    (inW k 1 3 = false ∧ voteF ⟨k, r, n, v⟩ = 1) ∨ (inW k 1 3 = true ∧ (k == 3) = true ∧ (r != 0) = true ∧ voteF ⟨k, r, n, v⟩ = 1) ∨
    (inW k 1 3 = true ∧ (((k == 3) = true ∧ (r != 0) = false) ∨ (k == 3) = false) ∧
      ((inW r 0 3 = false ∧ voteF ⟨k, r, n, v⟩ = 3) ∨ (inW r 0 3 = true ∧ inW n 0 2 = false ∧ voteF ⟨k, r, n, v⟩ = 3) ∨ (inW r 0 3 = true ∧ inW n 0 2 = true ∧ inW v 0 (vtM k) = false ∧ voteF ⟨k, r, n, v⟩ = 3) ∨
       (inW r 0 3 = true ∧ inW n 0 2 = true ∧ inW v 0 (vtM k) = true ∧ voteF ⟨k, r, n, v⟩ = 0))) := by
  unfold voteF
  cases h1 : inW k 1 3 <;> cases h2 : (k == 3) <;> cases h3 : (r != 0) <;> cases h4 : inW r 0 3 <;> cases h5 : inW n 0 2 <;> cases h6 : inW v 0 (vtM k) <;> simp [h1, h2, h3, h4, h5, h6]

theorem below_dN {B : Nat} {a w : World} (h : Below B a w) (n : Nat) : Below B a (w.drewN n) := ⟨h.os, h.tape, h.output, h.size, h.block⟩

set_option maxHeartbeats 1000000 in
theorem mostOf_any (k : Int) (w : World) :
    Calls Tryz.prog 211 #[.int .i64 k] w fun e w' => e = .returned (.int .i64 (vtM k)) ∧ w' = w := by
  unfold vtM
  cases h : (k == 2)
  · go_enter Tryz.func211, Tryz.ntmps211
    go_wp2
    go_ret
    exact ⟨by simp, rfl⟩
  · go_enter Tryz.func211, Tryz.ntmps211
    go_wp2
    go_ret
    exact ⟨by simp, rfl⟩

set_option maxHeartbeats 400000 in
theorem voteFault_any (k r n v : Int) (w : World) :
    Calls Tryz.prog 170 #[.agg #[.int .i64 k, .int .i64 r, .int .i64 n, .int .i64 v]] w fun e w' => e = .returned (.int .i64 (voteF ⟨k, r, n, v⟩)) ∧ Below w.heap.size w w' := by
  have hm := fun w => mostOf_any k w
  have hW := voteF_ways k r n v
  generalize vtM k = M at hm hW
  rcases hW with ⟨h1, h⟩ | ⟨h1, h2, h3, h⟩ | ⟨h1, ⟨h2, h3⟩ | h2, ⟨h4, h⟩ | ⟨h4, h5, h⟩ | ⟨h4, h5, h6, h⟩ | ⟨h4, h5, h6, h⟩⟩ <;> rw [h] <;> clear h
  all_goals (go_enter Tryz.func170, Tryz.ntmps170)
  all_goals (go_wp2_with (go_at_call 68; refine (isWithin_any _ _ _ _).mono ?_; rintro e w' ⟨rfl, rfl⟩))
  iterate 2
    (go_ret
     exact ⟨rfl, by go_grown⟩)
  all_goals
    (go_quiet (first | (go_at_call 68; exact Calls.quiet_of_same (isWithin_any _ _ _ _)) | (go_at_call 211; exact Calls.quiet_of_same (hm _)))
     go_wp2
     go_ret
     exact ⟨rfl, below_dN (by go_grown) _⟩)

set_option maxHeartbeats 400000 in
theorem l10Node_any (n : Int) (w : World) :
    Calls Tryz.prog 153 #[.int .i64 n] w fun e w' => e = .returned (.bool (inW n 0 2)) ∧ w' = w := by
  go_enter Tryz.func153, Tryz.ntmps153
  go_wp2_with (go_at_call 102; refine (l1InW_any _ _ _ _).mono ?_; rintro e w' ⟨rfl, rfl⟩)
  go_ret
  exact ⟨rfl, rfl⟩

set_option maxHeartbeats 400000 in
theorem l10Fault_any (b o : Nat) (k r n v : Int) (w : World) (hB : Box4 w b o (.int .i64 k) (.int .i64 r) (.int .i64 n) (.int .i64 v)) :
    Calls Tryz.prog 111 #[.pointer (some ⟨b, o, none⟩)] w fun e w' => e = .returned (.int .i64 (voteF ⟨k, r, n, v⟩)) ∧ w' = w := by
  obtain ⟨b0, b1, b2, b3⟩ := hB
  have hW := voteF_ways k r n v
  unfold vtM at hW
  cases h0 : (k == 2) <;> simp only [h0, if_true, if_false, Bool.false_eq_true] at hW <;>
  (rcases hW with ⟨h1, h⟩ | ⟨h1, h2, h3, h⟩ | ⟨h1, ⟨h2, h3⟩ | h2, ⟨h4, h⟩ | ⟨h4, h5, h⟩ | ⟨h4, h5, h6, h⟩ | ⟨h4, h5, h6, h⟩⟩ <;> rw [h] <;> clear h <;>
  (go_enter Tryz.func111, Tryz.ntmps111
   go_wp2_with (first | (go_at_call 102; refine (l1InW_any _ _ _ _).mono ?_; rintro e w' ⟨rfl, rfl⟩) | (go_at_call 153; refine (l10Node_any _ _).mono ?_; rintro e w' ⟨rfl, rfl⟩))
   go_ret
   exact ⟨rfl, rfl⟩))

end Go.Proofs.YtpjmlidbligcbaaGreatDoor

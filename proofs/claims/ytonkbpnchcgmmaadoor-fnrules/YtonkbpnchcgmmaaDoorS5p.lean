/- ProposalFor and what it asks, of the program and of its model. -/
import Derived.Test.YtonkbpnchcgmmaaDoorS5t
namespace Go.Proofs.YtonkbpnchcgmmaaDoor
open Go.RowKit
set_option linter.unusedVariables false
set_option linter.unusedSimpArgs false

/-- Was a quorum heard? -/
def heard (zs : List Int) (m : Int) : Bool := isQ m && (cnt m zs 3 == 0)
theorem isQ_in {m : Int} (h : isQ m = true) : inB m 0 7 = true := by
  unfold isQ at h
  rw [Bool.and_eq_true] at h
  exact h.1
theorem heard_in {zs : List Int} {m : Int} (h : heard zs m = true) : inB m 0 7 = true := by
  unfold heard at h
  rw [Bool.and_eq_true] at h
  exact isQ_in h.1
theorem vfa2 (zs : List Int) : vfault zs 2 = vf zs 2 := by simp [vfault, inB]
theorem vfa1 (zs : List Int) : vfault zs 1 = vf zs 1 := by simp [vfault, inB]

set_option maxHeartbeats 1000000 in
theorem isHeard_any (a : Option Addr) (cap : Nat) (zs : List Int) (m : Int) (w : World) (h : Row .i64 w a zs) (hl : zs.length = 3) :
    Calls Tryd.prog 29 #[.slice a 3 cap, .int .i64 m] w fun e w' => e = .returned (.bool (heard zs m)) ∧ w' = w := by
  have hq := isQuorum_any m w
  have hvo := votersOf_any a cap zs 3 w h hl
  unfold heard
  by_cases h1 : isQ m = true
  · obtain ⟨q1, q2, q3⟩ := and_vot (isQ_in h1) zs 3
    rw [h1] at hq ⊢
    rw [← q3]
    clear q1 q2 q3 h1
    generalize vot zs 3 = u at *
    go_enter Tryd.func29, Tryd.ntmps29
    go_wp2_with (first | (go_at_call 42; refine hq.mono ?_; rintro e w' ⟨rfl, rfl⟩) | (go_at_call 43; refine hvo.mono ?_; rintro e w' ⟨rfl, rfl⟩))
    go_ret
    exact ⟨by simp, rfl⟩
  · have h1' : isQ m = false := by simpa using h1
    rw [h1'] at hq ⊢
    clear h1 h1'
    go_enter Tryd.func29, Tryd.ntmps29
    go_wp2_with (go_at_call 42; refine hq.mono ?_; rintro e w' ⟨rfl, rfl⟩)
    go_ret
    exact ⟨by simp, rfl⟩

set_option maxHeartbeats 1000000 in
theorem countsOf_any (a : Option Addr) (cap : Nat) (zs : List Int) (m : Int) (w : World) (h : Row .i64 w a zs) (hl : zs.length = 3) (hm : inB m 0 7 = true) :
    Calls Tryd.prog 31 #[.slice a 3 cap, .int .i64 m] w fun e w' => e = .returned (.complex .f64 (fl (cnt m zs 0)) (fl (cnt m zs 1))) ∧ w' = w := by
  obtain ⟨q1, q2, _⟩ := and_vot hm zs 0
  obtain ⟨r1, r2, _⟩ := and_vot hm zs 1
  have hn0 := nodesIn_any _ w q1
  have hn1 := nodesIn_any _ w r1
  rw [q2] at hn0
  rw [r2] at hn1
  have hv0 := votersOf_any a cap zs 0 w h hl
  have hv1 := votersOf_any a cap zs 1 w h hl
  clear q1 q2 r1 r2
  generalize vot zs 0 = u0 at *
  generalize vot zs 1 = u1 at *
  generalize cnt m zs 0 = c0 at *
  generalize cnt m zs 1 = c1 at *
  go_enter Tryd.func31, Tryd.ntmps31
  go_wp2_with fail
  refine hv0.mono ?_
  rintro e w' ⟨rfl, hw⟩
  replace hw := hw.symm
  subst hw
  go_wp2_with fail
  refine hn0.mono ?_
  rintro e w' ⟨rfl, hw⟩
  replace hw := hw.symm
  subst hw
  go_wp2_with fail
  refine hv1.mono ?_
  rintro e w' ⟨rfl, hw⟩
  replace hw := hw.symm
  subst hw
  go_wp2_with fail
  refine hn1.mono ?_
  rintro e w' ⟨rfl, hw⟩
  replace hw := hw.symm
  subst hw
  go_wp2
  go_ret
  exact ⟨rfl, rfl⟩

end Go.Proofs.YtonkbpnchcgmmaaDoor

/- The laws' choices: some number out of n; some mask of a quorum. -/
import Derived.Test.YtpdbjjklcejimaaDraw
namespace Go.Proofs.Ytpdbjjklcejimaa
open Go.RowKit
set_option linter.unusedVariables false
set_option linter.unusedSimpArgs false

set_option maxHeartbeats 2000000 in
theorem lwAt_any (a : Option Addr) (cap : Nat) (zs : List Int) (i : Nat) (n : Int) (w : World) (h : Row .u8 w a zs) (hu : ∀ i, 0 ≤ zs.getD i 0 ∧ zs.getD i 0 ≤ 255) (hm : zs.length ≤ 1048576) (hi : i ≤ 1000) (hn1 : 1 ≤ n) (hn : n ≤ 200) :
    Calls Try.prog 17 #[.slice a zs.length cap, .int .i64 i, .int .i64 n] w fun e w' => ∃ r : Int, e = .returned (.int .i64 r) ∧ 0 ≤ r ∧ r < n ∧ Below w.heap.size w w' := by
  by_cases h1 : n ≤ 1
  · go_enter Try.func17, Try.ntmps17
    go_wp2
    go_ret
    exact ⟨0, rfl, by omega, by omega, Below.refl _ _⟩
  · by_cases hz : zs.length = 0
    · have hz' : ((zs.length : Int) == 0) = true := by simp [hz]
      have hr := InR.mod ((i : Int) * 7) n (by omega)
      clear h hz hm
      go_enter Try.func17, Try.ntmps17
      go_wp2
      go_ret
      exact ⟨_, rfl, hr.1, hr.2.1 (by omega), Below.refl _ _⟩
    · have hz' : ((zs.length : Int) == 0) = false := by rw [beq_eq_false_iff_ne]; omega
      have hpos : 0 < zs.length := by omega
      have hm1 : i % zs.length < zs.length := Nat.mod_lt _ hpos
      obtain ⟨b', off, rfl, e2, c1⟩ := h _ hm1
      have u1 := hu (i % zs.length)
      have hq : (i : Int) / (zs.length : Int) ≤ 1000 := Int.le_trans (Int.ediv_le_self _ (by omega)) (by omega)
      have hq0 : 0 ≤ (i : Int) / (zs.length : Int) := Int.ediv_nonneg (by omega) (by omega)
      generalize zs.getD (i % zs.length) 0 = x at c1 u1
      have m0 : 0 ≤ (i : Int) % (zs.length : Int) := Int.emod_nonneg _ (by omega)
      have m1 : (i : Int) % (zs.length : Int) < (zs.length : Int) := Int.emod_lt_of_pos _ (by omega)
      clear hu h hz
      go_enter Try.func17, Try.ntmps17
      go_wp2
      go_quiet (fail)
      go_wp2
      go_ret
      refine ⟨_, rfl, (InR.mod _ n (by omega)).1, (InR.mod _ n (by omega)).2.1 (by omega), below_drewN (Below.refl _ _) _⟩

end Go.Proofs.Ytpdbjjklcejimaa

/- What the helpers of the laws on lists of int64 do: they copy, compare, mark and look for marks. Each is told for whatever list that can be read; the copying one for lists of at most 1048576 numbers. -/
import Derived.Test.YtkkdjgiencilbaaProg
import Derived.Test.YtkkdjgiencilbaaBase
namespace Go.Proofs.Ytkkdjgiencilbaa
open Go.RowKit
set_option linter.unusedVariables false
set_option linter.unusedSimpArgs false

theorem infoI64 : (Try.prog.info? 2).map (fun i => (i.zero, i.size, i.bytes)) = some (some (.int .i64 0), 1, 8) := by kernel_rfl

set_option maxHeartbeats 1000000 in
theorem toI_any (a : Option Addr) (cap : Nat) (zs : List Int) (w : World) (h : Row .i64 w a zs) (hl : zs.length ≤ 1048576) :
    Calls Try.prog 84 #[.slice a zs.length cap] w fun e w' => ∃ g c, e = .returned (.slice (some ⟨g, 0, none⟩) zs.length c) ∧
      w'.ownsRow w.heap.size 2 1 (.slice (some ⟨g, 0, none⟩) zs.length c) zs.length (zs.map (Value.int .i64)) ∧ Below w.heap.size w w' := by
  obtain ⟨i0, hi, hz0, hz1, hz2⟩ := info_parts infoI64
  have hbytes : i0.bytes * zs.length ≤ 281474976710656 := by rw [hz2]; omega
  have hmax : zs.length ≤ maxLen := by unfold maxLen; omega
  go_enter Try.func84, Try.ntmps84
  go_wp2_with (at_make; refine wpList_make_full _ rfl _ _ 101 rfl w.heap.size 2 i0 (.int .i64 0) 1 Try.underlying101 hi hz0 hz1 _ _ _ _ zs.length rfl rfl rfl rfl hbytes hmax (Nat.le_refl _) ?_)
  intro w1 hown hgrow
  have hlen0 : (madeCells #[Value.int .i64 0] zs.length).toList.length = zs.length := by simp [size_madeCells]
  have hb1 : Below w.heap.size w w1 := (Below.refl _ _).grown hgrow (Nat.le_refl _) (by simp)
  generalize (madeCells #[Value.int .i64 0] zs.length).toList = ys at hown hlen0
  rw [← laid_zero zs .i64 ys] at hown
  go_wp2
  go_loopw [4] (fun i wr => ∃ k : Nat, k ≤ zs.length ∧ i = .int .i64 k ∧ wr.ownsRow w.heap.size 2 1 (.slice (some ⟨w.heap.size, 0, none⟩) zs.length zs.length) zs.length (laid zs .i64 ys k) ∧ Below w.heap.size w wr) (fun i _ => zs.length - (intOf i).toNat)
  case atStart => exact ⟨0, Nat.zero_le _, rfl, hown, hb1⟩
  case round =>
    obtain ⟨k, hk, rfl, ho, hb⟩ := hrel
    by_cases hlt : k < zs.length
    · obtain ⟨b, off, rfl, hbs, hc⟩ := h k hlt
      have hc1 : wr.cell? ⟨b, off + k, none⟩ = some (.int .i64 (zs.getD k 0)) := by rw [hb.cell (p := ⟨b, off + k, none⟩) hbs]; exact hc
      have hfz : wr.frozen? ⟨w.heap.size, k, none⟩ = false := ho.frozenAt k
      obtain ⟨u, hu⟩ : ∃ u, wr.cell? ⟨w.heap.size, k, none⟩ = some u := by
        rw [ho.cellAt k (by omega)]
        exact ⟨_, List.getElem?_eq_getElem (by rw [laid_length _ _ _ _ hlen0 hk, hlen0]; exact hlt)⟩
      have hst := ho.stored k (.int .i64 (zs.getD k 0))
      rw [laid_step zs .i64 ys k hlen0 hlt] at hst
      generalize zs.getD k 0 = z at hst hc1
      have R : Hid ((wr.setCell ⟨w.heap.size, k, none⟩ (.int .i64 z)).ownsRow w.heap.size 2 1 (.slice (some ⟨w.heap.size, 0, none⟩) zs.length zs.length) zs.length (laid zs .i64 ys (k + 1)) ∧ Below w.heap.size w (wr.setCell ⟨w.heap.size, k, none⟩ (.int .i64 z))) := ⟨hst.1, hb.setCell (Nat.le_refl _) _⟩
      clear hst hc
      go_wp2
      go_roundw
      case rel => exact ⟨k + 1, by omega, by go_num, R.out.1, R.out.2⟩
      case measure => simp [intOf]; omega
    · go_wp2
      go_ret
      have hkl : k = zs.length := by omega
      subst hkl
      rw [laid_all zs .i64 ys hlen0] at ho
      exact ⟨_, _, rfl, ho, hb⟩

set_option maxHeartbeats 1000000 in
theorem eqI_true (a a' : Option Addr) (cap cap' : Nat) (zs : List Int) (w : World) (h : Row .i64 w a zs) (h' : Row .i64 w a' zs) (hl : zs.length ≤ 1099511627776) :
    Calls Try.prog 94 #[.slice a zs.length cap, .slice a' zs.length cap'] w fun e w' => e = .returned (.bool true) ∧ ∃ n, w' = w.drewN n := by
  go_enter Try.func94, Try.ntmps94
  go_wp2
  go_loopw [5] (fun i wr => ∃ k m : Nat, k ≤ zs.length ∧ i = .int .i64 k ∧ wr = w.drewN m) (fun i _ => zs.length - (intOf i).toNat)
  case atStart => exact ⟨0, 0, Nat.zero_le _, rfl, rfl⟩
  case round =>
    obtain ⟨k, m, hk, rfl, rfl⟩ := hrel
    by_cases hlt : k < zs.length
    · obtain ⟨b, off, rfl, hbs, hc⟩ := h k hlt
      obtain ⟨b', off', rfl, hbs', hc'⟩ := h' k hlt
      generalize zs.getD k 0 = z at hc hc'
      have hne : (z != z) = false := by simp
      go_wp2
      go_quiet (fail)
      go_wp2
      go_roundw
      case rel => exact ⟨k + 1, _, by omega, by go_num, rfl⟩
      case measure => simp [intOf]; omega
    · go_wp2
      go_ret
      exact ⟨rfl, _, rfl⟩

end Go.Proofs.Ytkkdjgiencilbaa

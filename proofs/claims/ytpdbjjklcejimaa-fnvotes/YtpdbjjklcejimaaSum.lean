/- What SumOf of the program and of its model do at a list of bytes that can be read: the same sum, the same code. -/
import Derived.Test.YtpdbjjklcejimaaNum
namespace Go.Proofs.Ytpdbjjklcejimaa
open Go.RowKit
set_option linter.unusedVariables false
set_option linter.unusedSimpArgs false

/-- The sum, byte by byte from 23 on. -/
def sumL (zs : List Int) : Int := zs.foldl (fun s b => (s * 233 + b + 1) % 65521) 23
theorem sumL_snoc (zs : List Int) (c : Int) : sumL (zs ++ [c]) = (sumL zs * 233 + c + 1) % 65521 := by simp [sumL]
theorem sumL_bounds (zs : List Int) : 0 ≤ sumL zs ∧ sumL zs ≤ 65520 := by
  rcases List.eq_nil_or_concat zs with rfl | ⟨l, c, rfl⟩
  · decide
  · rw [List.concat_eq_append, sumL_snoc]; omega
theorem take_snoc_int (zs : List Int) (k : Nat) (h : k < zs.length) : zs.take (k + 1) = zs.take k ++ [zs.getD k 0] := by
  rw [List.take_succ_eq_append_getElem h]; simp [List.getD, h]

def sumC (zs : List Int) : Int := if zs.length ≤ 500 then 0 else 2
def sumV (zs : List Int) : Int := if zs.length ≤ 500 then sumL zs else 0

set_option maxHeartbeats 1000000 in
theorem l1Sum_any (a : Option Addr) (cap : Nat) (zs : List Int) (w : World) (h : Row .u8 w a zs) (hu : ∀ i, 0 ≤ zs.getD i 0 ∧ zs.getD i 0 ≤ 255) (hl : zs.length ≤ 500) :
    Calls Try.prog 51 #[.slice a zs.length cap] w fun e w' => e = .returned (.int .i64 (sumL zs)) ∧ w' = w := by
  go_enter Try.func51, Try.ntmps51
  go_wp2
  go_loop [3, 4] (fun s i => ∃ k : Nat, k ≤ zs.length ∧ i = .int .i64 k ∧ s = .int .i64 (sumL (zs.take k))) (fun _ i => zs.length - (intOf i).toNat)
  case atStart => exact ⟨0, Nat.zero_le _, rfl, rfl⟩
  case round =>
    obtain ⟨k, hk, rfl, rfl⟩ := hrel
    by_cases hlt : k < zs.length
    · obtain ⟨b, off, rfl, hbs, hc⟩ := h k hlt
      have hb := hu k
      have hs := sumL_bounds (zs.take k)
      have hn : Hid (sumL (zs.take (k + 1)) = (sumL (zs.take k) * 233 + zs.getD k 0 + 1) % 65521) := by rw [take_snoc_int zs k hlt]; exact sumL_snoc _ _
      generalize zs.getD k 0 = z at hc hb hn
      generalize sumL (zs.take k) = s at hs hn
      go_wp2
      go_round
      case rel => exact ⟨k + 1, by omega, by go_num, by rw [hn.out]⟩
      case measure => simp [intOf]; omega
    · go_wp2
      go_ret
      have hkl : k = zs.length := by omega
      subst hkl
      exact ⟨by simp, rfl⟩

set_option maxHeartbeats 1000000 in
theorem implSum_any (a : Option Addr) (cap : Nat) (zs : List Int) (w : World) (h : Row .u8 w a zs) (hu : ∀ i, 0 ≤ zs.getD i 0 ∧ zs.getD i 0 ≤ 255) (hl : zs.length ≤ 1048576) :
    Calls Try.prog 41 #[.slice a zs.length cap] w fun e w' => e = .returned (.agg #[.int .i64 (sumC zs), .int .i64 (sumV zs)]) ∧ Below w.heap.size w w' := by
  by_cases hle : zs.length ≤ 500
  · have e1 : sumC zs = 0 := by simp [sumC, hle]
    have e2 : sumV zs = sumL zs := by simp [sumV, hle]
    rw [e1, e2]
    clear e1 e2
    have h' : Row .u8 (w.alloc (.cells #[.int .i64 0, .int .i64 0] 63)) a zs := h.below (by go_grown)
    go_enter Try.func41, Try.ntmps41
    go_wp2
    go_loop [3, 12] (fun s i => ∃ k : Nat, k ≤ zs.length ∧ i = .int .i64 k ∧ s = .int .i64 (sumL (zs.take k))) (fun _ i => zs.length - (intOf i).toNat)
    case atStart => exact ⟨0, Nat.zero_le _, rfl, rfl⟩
    case round =>
      obtain ⟨k, hk, rfl, rfl⟩ := hrel
      by_cases hlt : k < zs.length
      · obtain ⟨b, off, rfl, hbs, hc⟩ := h' k hlt
        have hb := hu k
        have hs := sumL_bounds (zs.take k)
        have hn : Hid (sumL (zs.take (k + 1)) = (sumL (zs.take k) * 233 + zs.getD k 0 + 1) % 65521) := by rw [take_snoc_int zs k hlt]; exact sumL_snoc _ _
        generalize zs.getD k 0 = z at hc hb hn
        generalize sumL (zs.take k) = s at hs hn
        go_wp2
        go_round
        case rel => exact ⟨k + 1, by omega, by go_num, by rw [hn.out]⟩
        case measure => simp [intOf]; omega
      · go_wp2
        have hkl : k = zs.length := by omega
        subst hkl
        exact bodyPost_ret (v := .agg #[.int .i64 0, .int .i64 (sumL zs)]) (by simp [results, Try.results41, go_sem]) rfl ⟨rfl, by go_grown⟩
  · have e1 : sumC zs = 2 := by simp [sumC, hle]
    have e2 : sumV zs = 0 := by simp [sumV, hle]
    rw [e1, e2]
    clear e1 e2
    go_enter Try.func41, Try.ntmps41
    go_wp2
    exact bodyPost_ret (v := .agg #[.int .i64 2, .int .i64 0]) (by simp [results, Try.results41, go_sem]) rfl ⟨rfl, by go_grown⟩

end Go.Proofs.Ytpdbjjklcejimaa

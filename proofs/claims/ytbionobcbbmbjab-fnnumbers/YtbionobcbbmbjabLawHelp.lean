/- What the small helpers of the laws do: two lists of bytes or of numbers that read alike are told alike. -/
import Derived.Test.YtbionobcbbmbjabHelpR
namespace Go.Proofs.Ytbionobcbbmbjab
open Go.RowKit
set_option linter.unusedVariables false
set_option linter.unusedSimpArgs false

/-- The string of a list of bytes. -/
def strOf (zs : List Int) : ByteArray := zs.foldl (fun r n => r.push (UInt8.ofNat n.toNat)) ByteArray.empty

theorem conv_bytes (a : Option Addr) (cap : Nat) (zs : List Int) (w : World) (h : Row .u8 w a zs) : (convert 22 9 (.slice a zs.length cap)).run Try.prog w = .ok (.string (strOf zs)) w := by
  rw [run_convert_bytes_string w 22 9 5 a zs.length cap Try.underlying22 Try.underlying5 Try.underlying9]
  cases a with
  | none =>
    have hz : zs = [] := by
      cases zs with
      | nil => rfl
      | cons x l => obtain ⟨b, off, e, _⟩ := h 0 (by simp); simp at e
    subst hz
    simp [Conv.bytesToString, strOf]
  | some x =>
    refine run_bytesToString w x zs.length cap zs ?_
    have hl := run_loadCells_list (P := Try.prog) (w := w) x (zs.map (Value.int .u8)) (by
      intro j v hj
      have hlt : j < zs.length := by
        have := (List.getElem?_eq_some_iff.1 hj).1
        simpa using this
      obtain ⟨b, off, e, _, hc⟩ := h j hlt
      simp only [Option.some.injEq] at e
      subst e
      rw [Addr.add_lit, hc]
      simp [hlt] at hj
      simp [List.getD, hlt, hj])
    simpa using hl

set_option maxHeartbeats 1000000 in
theorem lwBytes_true (a a' : Option Addr) (cap cap' : Nat) (zs : List Int) (w : World) (h : Row .u8 w a zs) (h' : Row .u8 w a' zs) (hl : zs.length ≤ 1099511627776) :
    Calls Try.prog 18 #[.slice a zs.length cap, .slice a' zs.length cap'] w fun e w' => e = .returned (.bool true) ∧ w' = w := by
  have e1 := conv_bytes a cap zs w h
  have e2 := conv_bytes a' cap' zs w h'
  go_enter Try.func18, Try.ntmps18
  go_wp2
  go_ret
  exact ⟨rfl, rfl⟩

set_option maxHeartbeats 1000000 in
theorem lwNums_true (a a' : Option Addr) (cap cap' : Nat) (zs : List Int) (w : World) (h : Row .i64 w a zs) (h' : Row .i64 w a' zs) (hl : zs.length ≤ 1099511627776) :
    Calls Try.prog 20 #[.slice a zs.length cap, .slice a' zs.length cap'] w fun e w' => e = .returned (.bool true) ∧ ∃ n, w' = w.drewN n := by
  go_enter Try.func20, Try.ntmps20
  go_wp2
  go_loopw [5] (fun i wr => ∃ k m : Nat, k ≤ zs.length ∧ i = .int .i64 k ∧ wr = w.drewN m) (fun i _ => zs.length - (intOf i).toNat)
  case atStart => exact ⟨0, 0, Nat.zero_le _, rfl, rfl⟩
  case round =>
    obtain ⟨k, m, hk, rfl, rfl⟩ := hrel
    by_cases hlt : k < zs.length
    · obtain ⟨b, off, rfl, hbs, hc⟩ := h k hlt
      obtain ⟨b', off', rfl, hbs', hc'⟩ := h' k hlt
      generalize zs.getD k 0 = z at hc hc'
      have hne : (z != z) = false := by simp
      go_wp2
      go_quiet (fail)
      go_wp2
      go_roundw
      case rel => exact ⟨k + 1, _, by omega, by go_num, rfl⟩
      case measure => simp [intOf]; omega
    · go_wp2
      go_ret
      exact ⟨rfl, _, rfl⟩

end Go.Proofs.Ytbionobcbbmbjab

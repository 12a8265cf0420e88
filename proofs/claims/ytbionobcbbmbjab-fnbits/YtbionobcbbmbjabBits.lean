/- What BitsOf of the program and of its model do at whatever mask: the same list of bits, the same code. -/
import Derived.Test.YtbionobcbbmbjabNum
namespace Go.Proofs.Ytbionobcbbmbjab
open Go.RowKit
set_option linter.unusedVariables false
set_option linter.unusedSimpArgs false

theorem infoI64' : (Try.prog.info? 2).map (fun i => (i.zero, i.size, i.bytes)) = some (some (.int .i64 0), 1, 8) := by kernel_rfl

/-- Has m the bit k? -/
def bitB (m : Int) (k : Nat) : Bool := decide (m / 2 ^ k % 2 = 1)
/-- The bits of m below k, rising. -/
def bitsL (m : Int) (k : Nat) : List Int := ((List.range k).filter (bitB m)).map fun (i : Nat) => (i : Int)
theorem bitsL_zero (m : Int) : bitsL m 0 = [] := rfl
theorem bitsL_yes (m : Int) (k : Nat) (h : bitB m k = true) : bitsL m (k + 1) = bitsL m k ++ [(k : Int)] := by simp [bitsL, List.range_succ, List.filter_append, h]
theorem bitsL_no (m : Int) (k : Nat) (h : bitB m k = false) : bitsL m (k + 1) = bitsL m k := by simp [bitsL, List.range_succ, List.filter_append, h]
theorem bitsL_le (m : Int) (k : Nat) : (bitsL m k).length ≤ k := by
  have := List.length_filter_le (bitB m) (List.range k)
  simpa [bitsL] using this

theorem bit_rem (m : Int) (k : Nat) (h : 0 ≤ m) : ((m / 2 ^ k).tmod 2 == 1) = bitB m k := by
  have h2 : 0 ≤ m / 2 ^ k := Int.ediv_nonneg h (by exact Int.le_of_lt (Int.pow_pos (by decide)))
  rw [Int.tmod_eq_emod_of_nonneg h2]
  simp [bitB, Bool.beq_eq_decide_eq]

set_option maxHeartbeats 1000000 in
theorem l1Has_any (m : Int) (k : Nat) (w : World) (h0 : 0 ≤ m) (h1 : m ≤ 65535) (hk : k < 16) :
    Calls Try.prog 60 #[.int .i64 m, .int .i64 k] w fun e w' => e = .returned (.bool (bitB m k)) ∧ w' = w := by
  go_enter Try.func60, Try.ntmps60
  go_wp2
  go_ret
  exact ⟨by simp [bit_rem m k h0], rfl⟩

set_option maxHeartbeats 1000000 in
theorem l1Bits_any (m : Int) (w : World) (h0 : 0 ≤ m) (h1 : m ≤ 65535) :
    Calls Try.prog 55 #[.int .i64 m] w fun e w' => ∃ a c, e = .returned (.slice a (bitsL m 16).length c) ∧ w'.ownsRow w.heap.size 2 1 (.slice a (bitsL m 16).length c) (bitsL m 16).length ((bitsL m 16).map (Value.int .i64)) ∧ Below w.heap.size w w' := by
  obtain ⟨i0, hi, hz0, hz1, hz2⟩ := info_parts infoI64'
  go_enter Try.func55, Try.ntmps55
  go_wp2
  go_loopw [3, 4] (fun v i wr => ∃ k : Nat, k ≤ 16 ∧ i = .int .i64 k ∧ wr.ownsRow w.heap.size 2 1 v (bitsL m k).length ((bitsL m k).map (Value.int .i64)) ∧ Below w.heap.size w wr) (fun _ i _ => 16 - (intOf i).toNat)
  case atStart => exact ⟨0, Nat.zero_le _, rfl, World.ownsRow_lit w #[] 0 (Nat.le_refl _) (by decide) rfl, by go_grown⟩
  case round =>
    obtain ⟨k, hk, rfl, ho, hb⟩ := hrel
    have hlen := bitsL_le m k
    have hsz := hb.size
    by_cases hlt : k < 16
    · by_cases hbit : bitB m k = true
      · go_wp2_with (first | (go_at_call 60; refine (l1Has_any m k _ h0 h1 hlt).mono ?_; rintro e w' ⟨rfl, rfl⟩) | (at_builtin; refine wpList_append_own _ rfl _ _ 25 rfl w.heap.size 2 i0 (.int .i64 0) 1 8 Try.underlying25 hi hz0 hz1 hz2 rfl (by decide) _ _ _ rfl (ho.alloc _) ⟨_, 0, none⟩ 1 1 [.int .i64 k] rfl rfl ?c1 ?c2 ?c3 ?c4 ?c5 ?_))
        case c1 => exact cell_one_new _ _ _
        case c2 => intro u hu; simp at hu; subst hu; rfl
        case c3 => unfold maxLen; omega
        case c4 => omega
        case c5 => simp; omega
        intro v' w1 hown hgrow _
        have R : Hid (w1.ownsRow w.heap.size 2 1 v' (bitsL m (k + 1)).length ((bitsL m (k + 1)).map (Value.int .i64)) ∧ Below w.heap.size w w1) := by
          rw [bitsL_yes m k hbit]
          exact ⟨by simpa using hown, (hb.alloc hb.size _).grown hgrow (by simp; omega) (fun j hj => (ho.lt j hj).1)⟩
        clear hown hgrow ho
        go_wp2
        go_roundw
        case rel => exact ⟨k + 1, by omega, by go_num, R.out.1, R.out.2⟩
        case measure => simp [intOf]; omega
      · have hbit' : bitB m k = false := by simpa using hbit
        clear hbit
        rw [← bitsL_no m k hbit'] at ho
        go_wp2_with (first | (go_at_call 60; refine (l1Has_any m k _ h0 h1 hlt).mono ?_; rintro e w' ⟨rfl, rfl⟩))
        go_roundw
        case rel => exact ⟨k + 1, by omega, by go_num, ho, hb⟩
        case measure => simp [intOf]; omega
    · have hkl : k = 16 := by omega
      subst hkl
      obtain ⟨a1, c1, rfl⟩ := own_shape ho
      go_wp2
      go_ret
      exact ⟨_, _, rfl, ho, hb⟩

/-- What is told of a mask: its bits, or a code. -/
def bitsC (m : Int) : Int := if 0 ≤ m ∧ m ≤ 65535 then 0 else 3
def bitsR (m : Int) : List Int := if 0 ≤ m ∧ m ≤ 65535 then bitsL m 16 else []
theorem bitsR_le (m : Int) : (bitsR m).length ≤ 16 := by
  unfold bitsR
  split
  · exact bitsL_le m 16
  · simp

set_option maxHeartbeats 1000000 in
theorem specBits_any (m : Int) (w : World) :
    Calls Try.prog 28 #[.int .i64 m] w fun e w' => ∃ a c, e = .returned (.agg #[.int .i64 (bitsC m), .slice a (bitsR m).length c]) ∧
      w'.ownsRow w.heap.size 2 1 (.slice a (bitsR m).length c) (bitsR m).length ((bitsR m).map (Value.int .i64)) ∧ Below w.heap.size w w' := by
  by_cases hm : 0 ≤ m ∧ m ≤ 65535
  · have e1 : bitsC m = 0 := by simp only [bitsC, if_pos hm]
    have e2 : bitsR m = bitsL m 16 := by simp only [bitsR, if_pos hm]
    rw [e1, e2]
    clear e1 e2
    have hin : inB m 0 65535 = true := decide_eq_true hm
    have hp := fun w => l1Bits_any m w hm.1 hm.2
    go_enter Try.func28, Try.ntmps28
    go_wp2_with (first | (go_at_call 52; refine (l1In_any _ _ _ _).mono ?_; rintro e w' ⟨rfl, rfl⟩) | (go_at_call 55; refine (hp _).mono ?_; rintro e w' ⟨a, k, rfl, ho, hb⟩; obtain ⟨hc, hf⟩ := bcell hb; have hz : w.heap.size < w'.heap.size := by have := hb.size; simp at this; omega))
    obtain ⟨r1, r2⟩ := ret_box ho hb (.int .i64 0) (.slice a (bitsL m 16).length k)
    exact bodyPost_ret (v := .agg #[.int .i64 0, .slice a (bitsL m 16).length k]) (by simp [results, Try.results28, go_sem, hc]) rfl ⟨a, k, rfl, r1, r2⟩
  · have e1 : bitsC m = 3 := by simp only [bitsC, if_neg hm]
    have e2 : bitsR m = [] := by simp only [bitsR, if_neg hm]
    rw [e1, e2]
    clear e1 e2
    have hin : inB m 0 65535 = false := decide_eq_false hm
    go_enter Try.func28, Try.ntmps28
    go_wp2_with (first | (go_at_call 52; refine (l1In_any _ _ _ _).mono ?_; rintro e w' ⟨rfl, rfl⟩))
    exact bodyPost_ret (v := .agg #[.int .i64 3, .slice none 0 0]) (by simp [results, Try.results28, go_sem]) rfl ⟨_, _, rfl, World.ownsRow_nil _ _ _ _, by go_grown⟩

theorem and_one (x : Int) (h0 : 0 ≤ x) (h1 : x ≤ 65535) : bits .and .i64 x 1 = x % 2 := by
  obtain ⟨p, rfl⟩ := Int.eq_ofNat_of_zero_le h0
  have e1 : (1 : Int) = ((1 : Nat) : Int) := rfl
  rw [e1]
  simp only [bits, BitVec.toNat_and, BitVec.ofInt_natCast, BitVec.toNat_ofNat]
  have k1 : p % 2 ^ IntKind.i64.bits = p := Nat.mod_eq_of_lt (by simp [IntKind.bits]; omega)
  have k2 : 1 % 2 ^ IntKind.i64.bits = 1 := Nat.mod_eq_of_lt (by simp [IntKind.bits])
  rw [k1, k2, Nat.and_one_is_mod, IntWalk.i64_in _ (by omega)]
  omega

theorem shr_bounds (m : Int) (k : Nat) (h0 : 0 ≤ m) (h1 : m ≤ 65535) : 0 ≤ m / 2 ^ k ∧ m / 2 ^ k ≤ 65535 := by
  refine ⟨Int.ediv_nonneg h0 (Int.le_of_lt (Int.pow_pos (by decide))), ?_⟩
  exact Int.le_trans (Int.ediv_le_self _ h0) h1

theorem bit_and (m : Int) (k : Nat) (h0 : 0 ≤ m) (h1 : m ≤ 65535) : (bits .and .i64 (m / 2 ^ k) 1 == 1) = bitB m k := by
  obtain ⟨a, b⟩ := shr_bounds m k h0 h1
  rw [and_one _ a b]
  simp [bitB, Bool.beq_eq_decide_eq]

set_option maxHeartbeats 1000000 in
theorem implBits_any (m : Int) (w : World) :
    Calls Try.prog 27 #[.int .i64 m] w fun e w' => ∃ a c, e = .returned (.agg #[.int .i64 (bitsC m), .slice a (bitsR m).length c]) ∧
      w'.ownsRow w.heap.size 2 1 (.slice a (bitsR m).length c) (bitsR m).length ((bitsR m).map (Value.int .i64)) ∧ Below w.heap.size w w' := by
  by_cases hm : 0 ≤ m ∧ m ≤ 65535
  · have e1 : bitsC m = 0 := by simp only [bitsC, if_pos hm]
    have e2 : bitsR m = bitsL m 16 := by simp only [bitsR, if_pos hm]
    rw [e1, e2]
    clear e1 e2
    obtain ⟨i0, hi, hz0, hz1, hz2⟩ := info_parts infoI64'
    have hin : inB m 0 65535 = true := decide_eq_true hm
    go_enter Try.func27, Try.ntmps27
    go_wp2_with (go_at_call 54; refine (within_any _ _ _ _).mono ?_; rintro e w' ⟨rfl, rfl⟩)
    generalize hW : w.alloc (.cells #[.int .i64 0, .slice none 0 0] 27) = W
    have hs : w.heap.size < W.heap.size := by rw [← hW]; simp
    go_loopw [3, 9] (fun v i wr => ∃ k : Nat, k ≤ 16 ∧ i = .int .i64 k ∧ wr.ownsRow W.heap.size 2 1 v (bitsL m k).length ((bitsL m k).map (Value.int .i64)) ∧ Below W.heap.size W wr) (fun _ i _ => 16 - (intOf i).toNat)
    case atStart => exact ⟨0, Nat.zero_le _, rfl, World.ownsRow_nil _ _ _ _, Below.refl _ _⟩
    case round =>
      obtain ⟨k, hk, rfl, ho, hb⟩ := hrel
      have hlen := bitsL_le m k
      have hsz := hb.size
      by_cases hlt : k < 16
      · have hand := bit_and m k hm.1 hm.2
        by_cases hbit : bitB m k = true
        · rw [hbit] at hand
          go_wp2_with (first | (at_builtin; refine wpList_append_own _ rfl _ _ 25 rfl W.heap.size 2 i0 (.int .i64 0) 1 8 Try.underlying25 hi hz0 hz1 hz2 rfl (by decide) _ _ _ rfl (ho.alloc _) ⟨_, 0, none⟩ 1 1 [.int .i64 k] rfl rfl ?c1 ?c2 ?c3 ?c4 ?c5 ?_))
          case c1 => exact cell_one_new _ _ _
          case c2 => intro u hu; simp at hu; subst hu; rfl
          case c3 => unfold maxLen; omega
          case c4 => omega
          case c5 => simp; omega
          intro v' w1 hown hgrow _
          have R : Hid (w1.ownsRow W.heap.size 2 1 v' (bitsL m (k + 1)).length ((bitsL m (k + 1)).map (Value.int .i64)) ∧ Below W.heap.size W w1) := by
            rw [bitsL_yes m k hbit]
            exact ⟨by simpa using hown, (hb.alloc hb.size _).grown hgrow (by simp; omega) (fun j hj => (ho.lt j hj).1)⟩
          clear hown hgrow ho
          go_wp2
          go_roundw
          case rel => exact ⟨k + 1, by omega, by go_num, R.out.1, R.out.2⟩
          case measure => simp [intOf]; omega
        · have hbit' : bitB m k = false := by simpa using hbit
          rw [hbit'] at hand
          clear hbit
          rw [← bitsL_no m k hbit'] at ho
          go_wp2
          go_roundw
          case rel => exact ⟨k + 1, by omega, by go_num, ho, hb⟩
          case measure => simp [intOf]; omega
      · have hkl : k = 16 := by omega
        subst hkl
        obtain ⟨a1, c1, rfl⟩ := own_shape ho
        obtain ⟨hc, hf⟩ := bcell hb
        have hp1 : wr.cell? ⟨w.heap.size, 0, none⟩ = some (.int .i64 0) := by rw [hc _ _ (by omega), ← hW]; simp
        have hp2 : wr.cell? ⟨w.heap.size, 1, none⟩ = some (.slice none 0 0) := by rw [hc _ _ (by omega), ← hW]; simp
        have hq1 : wr.frozen? ⟨w.heap.size, 0, none⟩ = false := by rw [hf _ _ (by omega), ← hW]; simp
        have hq2 : wr.frozen? ⟨w.heap.size, 1, none⟩ = false := by rw [hf _ _ (by omega), ← hW]; simp
        clear hc hf
        subst hW
        obtain ⟨r1, r2⟩ := ret_box ho hb (.int .i64 0) (.slice a1 (bitsL m 16).length c1)
        go_wp2
        exact bodyPost_ret (v := .agg #[.int .i64 0, .slice a1 (bitsL m 16).length c1]) (by simp [results, Try.results27, go_sem, hp1, hp2]) rfl ⟨a1, c1, rfl, r1, r2⟩
  · have e1 : bitsC m = 3 := by simp only [bitsC, if_neg hm]
    have e2 : bitsR m = [] := by simp only [bitsR, if_neg hm]
    rw [e1, e2]
    clear e1 e2
    have hin : inB m 0 65535 = false := decide_eq_false hm
    go_enter Try.func27, Try.ntmps27
    go_wp2_with (go_at_call 54; refine (within_any _ _ _ _).mono ?_; rintro e w' ⟨rfl, rfl⟩)
    exact bodyPost_ret (v := .agg #[.int .i64 3, .slice none 0 0]) (by simp [results, Try.results27, go_sem]) rfl ⟨_, _, rfl, World.ownsRow_nil _ _ _ _, by go_grown⟩

end Go.Proofs.Ytbionobcbbmbjab

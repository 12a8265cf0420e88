/- The law FnBits, walked: at every list of bytes it answers true, and it writes into nothing that was there. -/
import Derived.Test.YtbionobcbbmbjabBits
import Derived.Test.YtbionobcbbmbjabDraw
import Derived.Deep.RegionWith
namespace Go.Proofs.Ytbionobcbbmbjab
open Go.RowKit
set_option linter.unusedVariables false
set_option linter.unusedSimpArgs false

/-- The worth of the bits of a list. -/
def worth : List Int → Int
  | [] => 0
  | x :: l => 2 ^ x.toNat + worth l
theorem worth_append (l r : List Int) : worth (l ++ r) = worth l + worth r := by
  induction l with
  | nil => simp [worth]
  | cons x l ih => simp only [List.cons_append, worth, ih]; omega
theorem worth_snoc (l : List Int) (x : Int) : worth (l ++ [x]) = worth l + 2 ^ x.toNat := by simp [worth_append, worth]
theorem worth_pos (l : List Int) : 0 ≤ worth l := by
  induction l with
  | nil => simp [worth]
  | cons x l ih =>
    have : (0 : Int) < 2 ^ x.toNat := Int.pow_pos (by decide)
    simp only [worth]; omega
theorem worth_take (l : List Int) (k : Nat) : 0 ≤ worth (l.take k) ∧ worth (l.take k) ≤ worth l := by
  refine ⟨worth_pos _, ?_⟩
  have e := worth_append (l.take k) (l.drop k)
  rw [List.take_append_drop] at e
  have := worth_pos (l.drop k)
  omega
theorem pow_bd (j : Nat) (h : j < 16) : (0 : Int) < 2 ^ j ∧ (2 : Int) ^ j ≤ 32768 := by
  exact (by decide : ∀ i, i < 16 → (0 : Int) < 2 ^ i ∧ (2 : Int) ^ i ≤ 32768) j h
theorem take_snoc_i (zs : List Int) (k : Nat) (h : k < zs.length) : zs.take (k + 1) = zs.take k ++ [zs.getD k 0] := by
  rw [List.take_succ_eq_append_getElem h]; simp [List.getD, h]
theorem mod_step (m : Int) (k : Nat) (h : 0 ≤ m) : m % 2 ^ (k + 1) = m % 2 ^ k + 2 ^ k * (m / 2 ^ k % 2) := by
  obtain ⟨p, rfl⟩ := Int.eq_ofNat_of_zero_le h
  have := Nat.mod_pow_succ (x := p) (b := 2) (k := k)
  exact_mod_cast congrArg (fun n : Nat => (n : Int)) this
theorem worth_bits (m : Int) (h : 0 ≤ m) (k : Nat) : worth (bitsL m k) = m % 2 ^ k := by
  induction k with
  | zero => simp [bitsL, worth, Int.emod_one]
  | succ k ih =>
    rw [mod_step m k h]
    by_cases hb : bitB m k = true
    · rw [bitsL_yes m k hb, worth_snoc, ih, of_decide_eq_true hb]
      simp
    · have hb' : bitB m k = false := by simpa using hb
      have h1 : ¬ m / 2 ^ k % 2 = 1 := of_decide_eq_false hb'
      have h0 : m / 2 ^ k % 2 = 0 := by omega
      rw [bitsL_no m k hb', ih, h0]
      simp
theorem worth_all (m : Int) (h0 : 0 ≤ m) (h1 : m ≤ 65535) : worth (bitsL m 16) = m := by
  rw [worth_bits m h0 16]
  exact Int.emod_eq_of_lt h0 (by omega)
theorem bits_in (m : Int) (k : Nat) : ∀ x ∈ bitsL m k, 0 ≤ x ∧ x < k := by
  intro x hx
  simp only [bitsL, List.mem_map, List.mem_filter, List.mem_range] at hx
  obtain ⟨i, ⟨hi, _⟩, rfl⟩ := hx
  omega
theorem bits_rise (m : Int) (k : Nat) : (bitsL m k).Pairwise (· < ·) := by
  unfold bitsL
  rw [List.pairwise_map]
  refine (List.Pairwise.filter _ List.pairwise_lt_range).imp ?_
  intro a b h
  omega

set_option maxHeartbeats 1000000 in
theorem lwBig_any (a : Option Addr) (n cap : Nat) (w : World) (hm : n ≤ 9223372036854775807) :
    Calls Try.prog 8 #[.slice a n cap] w fun e w' => e = .returned (.bool (decide (1048576 < (n : Int)))) ∧ w' = w := by
  go_enter Try.func8, Try.ntmps8
  go_wp2
  go_ret
  exact ⟨rfl, rfl⟩

theorem fieldL0 (c : Int) (a : Option Addr) (l k : Nat) (w : World) : (Instr.field 27 (.agg #[.int .i64 c, .slice a l k]) 0).run Try.prog w = .ok (.int .i64 c) w := by kernel_rfl

theorem row_low {w : World} {a : Option Addr} {zs : List Int} (h : Row .u8 w a zs) : ∀ i, i < zs.length → ∃ b' off, a = some ⟨b', off, none⟩ ∧ b' < w.heap.size ∧ w.cell? ⟨b', off + i, none⟩ = some (.int .u8 (zs.getD i 0)) := fun i hi => by
  obtain ⟨b, off, e1, e2, e3⟩ := h i hi
  exact ⟨b, off, e1, e2, e3⟩

set_option maxHeartbeats 1000000 in
theorem drawBits_any (a : Option Addr) (cap : Nat) (zs : List Int) (w : World) (h : Row .u8 w a zs) (hu : ∀ i, 0 ≤ zs.getD i 0 ∧ zs.getD i 0 ≤ 255) (hl : zs.length ≤ 1048576) :
    Calls Try.prog 26 #[.slice a zs.length cap] w fun e w' => ∃ r : Int, e = .returned (.int .i64 r) ∧ Below w.heap.size w w' := by
  go_enter Try.func26, Try.ntmps26
  go_wp2_with fail
  refine (source_any w.heap.size a cap zs w (Nat.le_refl _) hl hu (row_low h)).mono ?_
  rintro e w1 ⟨rfl, hS, hb1⟩
  go_wp2_with fail
  have hlt := hS.lt
  refine (pick_any w.heap.size w.heap.size 0 w1.heap.size _ [0, 5, 7, 65535, 65536, -1, 32768] _ (hS.below (by go_grown)) (by omega) (World.ownsRow_lit w1 _ 7 (Nat.le_refl _) (by decide) rfl) (by simp) (by simp) (by simp [Value.ownBlock]; omega)).mono ?_
  rintro e w2 ⟨r, rfl, hmem, hS2, hg2⟩
  have b2 : Below w.heap.size w w2 := (hb1.alloc hb1.size _).grown hg2 (by simp; omega) (by simp)
  clear hmem hg2
  go_wp2
  go_ret
  exact ⟨r, rfl, b2⟩

set_option maxHeartbeats 2000000 in
theorem bitsFn (a : Option Addr) (cap : Nat) (zs : List Int) (w : World) (h : Row .u8 w a zs) (hu : ∀ i, 0 ≤ zs.getD i 0 ∧ zs.getD i 0 ≤ 255) (hm : zs.length ≤ 9223372036854775807) :
    Calls Try.prog 4 #[.slice a zs.length cap] w fun e w' => e = .returned (.bool true) ∧ Below w.heap.size w w' := by
  by_cases hle : zs.length ≤ 1048576
  · have hd : decide (1048576 < (zs.length : Int)) = false := decide_eq_false (by omega)
    go_enter Try.func4, Try.ntmps4
    go_wp2_with fail
    refine (lwBig_any a zs.length cap w hm).mono ?_
    rintro e w1 ⟨rfl, rfl⟩
    rw [hd]
    go_wp2_with fail
    refine (drawBits_any a cap zs w1 h hu hle).mono ?_
    rintro e w2 ⟨m, rfl, b2⟩
    go_wp2_with fail
    refine (implBits_any m w2).mono ?_
    rintro e w3 ⟨a3, k3, rfl, o3, hb3⟩
    have b3 := b2.trans (hb3.mono b2.size)
    clear b2 hb3
    by_cases hmr : 0 ≤ m ∧ m ≤ 65535
    · have e1 : bitsC m = 0 := by simp only [bitsC, if_pos hmr]
      have e2 : bitsR m = bitsL m 16 := by simp only [bitsR, if_pos hmr]
      rw [e1, e2]
      rw [e2] at o3
      clear e1 e2
      have hlen := bitsL_le m 16
      have hall := worth_all m hmr.1 hmr.2
      have hin := bits_in m 16
      have hris := bits_rise m 16
      generalize hLL : bitsL m 16 = L at *
      clear hLL
      have HALL : Hid (worth L = m) := hall
      have HIN : Hid (∀ x ∈ L, 0 ≤ x ∧ x < ((16 : Nat) : Int)) := hin
      have HRIS : Hid (L.Pairwise (· < ·)) := hris
      clear hall hin hris
      go_wp2_with fail
      have o3 := o3.alloc (.cells #[.int .i64 0, .slice a3 L.length k3] 27)
      have B3 := Box.new w3 (.int .i64 0) (.slice a3 L.length k3) 27
      have b3 := b3.alloc b3.size (.cells #[.int .i64 0, .slice a3 L.length k3] 27)
      generalize (w3.alloc (.cells #[.int .i64 0, .slice a3 L.length k3] 27)) = W at *
      have p2 := B3.snd
      clear B3
      have hR := Row.own o3
      clear o3
      go_loopw [5, 6] (fun s i wr => ∃ k q : Nat, k ≤ L.length ∧ i = .int .i64 k ∧ s = .int .i64 (worth (L.take k)) ∧ wr = W.drewN q) (fun _ i _ => L.length - (intOf i).toNat)
      case atStart => exact ⟨0, 0, Nat.zero_le _, rfl, rfl, rfl⟩
      case round =>
        obtain ⟨k, q, hk, rfl, rfl, rfl⟩ := hrel
        by_cases hlt : k < L.length
        · have hw0 : 0 ≤ worth (L.take k) ∧ worth (L.take k) ≤ 65535 := by
            have := worth_take L k
            have := HALL.out
            omega
          have hws0 : worth (L.take (k + 1)) = worth (L.take k) + 2 ^ (L.getD k 0).toNat := by
            rw [take_snoc_i L k hlt, worth_snoc]
          have hws : Hid (worth (L.take (k + 1)) = worth (L.take k) + 2 ^ (L.getD k 0).toNat) := hws0
          clear hws0
          obtain ⟨bb, off, rfl, hbb, c1⟩ := hR k hlt
          have hx := HIN.out (L.getD k 0) (by simp [List.getD, hlt])
          by_cases hk0 : k = 0
          · subst hk0
            generalize L.getD 0 0 = x at *
            generalize worth (L.take 0) = s at *
            have d1 : decide (x < 0) = false := decide_eq_false (by omega)
            have d2 : decide (15 < x) = false := decide_eq_false (by omega)
            obtain ⟨j, rfl⟩ := Int.eq_ofNat_of_zero_le hx.1
            rw [Nat.add_zero] at c1
            go_wp2
            go_quiet (fail)
            go_wp2
            go_roundw
            case rel =>
              refine ⟨1, _, by omega, rfl, ?_, rfl⟩
              have hp := pow_bd j (by omega)
              have e := hws.out
              rw [Int.toNat_natCast] at e
              rw [e, IntWalk.wrap64_in (2 ^ j) (by omega), IntWalk.wrap64_in _ (by omega)]
            case measure => simp [intOf]; omega
          · obtain ⟨b4, off4, he4, hb4, c2⟩ := hR (k - 1) (by omega)
            simp only [Option.some.injEq, Addr.mk.injEq, and_true] at he4
            obtain ⟨rfl, rfl⟩ := he4
            have hxy : L.getD (k - 1) 0 < L.getD k 0 := by
              have := List.pairwise_iff_getElem.1 HRIS.out (k - 1) k (by omega) hlt (by omega)
              simpa [List.getD, hlt, show k - 1 < L.length by omega] using this
            generalize L.getD (k - 1) 0 = y at *
            generalize L.getD k 0 = x at *
            generalize worth (L.take k) = s at *
            have d1 : decide (x < 0) = false := decide_eq_false (by omega)
            have d2 : decide (15 < x) = false := decide_eq_false (by omega)
            have d3 : decide (0 < k) = true := decide_eq_true (by omega)
            have d4 : decide (x ≤ y) = false := decide_eq_false (by omega)
            obtain ⟨j, rfl⟩ := Int.eq_ofNat_of_zero_le hx.1
            have hk1 : 1 ≤ k := by omega
            go_wp2
            go_quiet (fail)
            go_wp2
            go_roundw
            case rel =>
              refine ⟨k + 1, _, by omega, by go_num, ?_, rfl⟩
              have hp := pow_bd j (by omega)
              have e := hws.out
              rw [Int.toNat_natCast] at e
              rw [e, IntWalk.wrap64_in (2 ^ j) (by omega), IntWalk.wrap64_in _ (by omega)]
            case measure => simp [intOf]; omega
        · go_wp2
          go_ret
          have hkl : k = L.length := by omega
          subst hkl
          have e := HALL.out
          rw [List.take_length, e]
          exact ⟨by simp, below_drewN b3 _⟩
    · have e1 : bitsC m = 3 := by simp only [bitsC, if_neg hmr]
      have e2 : bitsR m = [] := by simp only [bitsR, if_neg hmr]
      rw [e1, e2]
      rw [e2] at o3
      clear e2
      have hsp := fun w => specBits_any m w
      rw [e1] at hsp
      clear e1
      go_wp2_with fail
      have b3 := b3.alloc b3.size (.cells #[.int .i64 3, .slice a3 0 k3] 27)
      have B3 := Box.new w3 (.int .i64 3) (.slice a3 0 k3) 27
      have s3 : w3.heap.size < (w3.alloc (.cells #[.int .i64 3, .slice a3 0 k3] 27)).heap.size := by simp
      generalize (w3.alloc (.cells #[.int .i64 3, .slice a3 0 k3] 27)) = W at *
      have p1 := B3.fst
      clear B3
      have hfl := fieldL0
      go_region_with (go_at_call 28; refine (hsp _).mono ?_; rintro e w' ⟨a5, k5, rfl, o5, hb5⟩; have hcc := hb5.cell (p := ⟨w3.heap.size, 0, none⟩) s3)
      all_goals (go_wp2; go_ret; exact ⟨rfl, b3.drew.trans (hb5.mono b3.size)⟩)
  · have hd : decide (1048576 < (zs.length : Int)) = true := decide_eq_true (by omega)
    go_enter Try.func4, Try.ntmps4
    go_wp2_with fail
    refine (lwBig_any a zs.length cap w hm).mono ?_
    rintro e w1 ⟨rfl, rfl⟩
    rw [hd]
    go_wp2
    go_ret
    exact ⟨rfl, Below.refl _ _⟩

end Go.Proofs.Ytbionobcbbmbjab

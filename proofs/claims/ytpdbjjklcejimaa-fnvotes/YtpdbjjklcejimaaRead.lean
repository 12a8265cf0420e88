/- What ReadNumbers of the program and of its model do at a list of bytes that can be read: the same list of numbers, the same code. -/
import Derived.Test.YtpdbjjklcejimaaGet
namespace Go.Proofs.Ytpdbjjklcejimaa
open Go.RowKit
set_option linter.unusedVariables false
set_option linter.unusedSimpArgs false

/-- Are these the bytes of a packed list? -/
def packedB (zs : List Int) : Bool := decide (1 ≤ zs.length ∧ zs.getD 0 0 ≤ 40 ∧ (zs.length : Int) = 1 + 2 * zs.getD 0 0)
theorem packed_of {zs : List Int} (h : packedB zs = true) : 1 ≤ zs.length ∧ zs.getD 0 0 ≤ 40 ∧ (zs.length : Int) = 1 + 2 * zs.getD 0 0 := of_decide_eq_true h
theorem packed_not {zs : List Int} (h : packedB zs = false) : ¬ (1 ≤ zs.length ∧ zs.getD 0 0 ≤ 40 ∧ (zs.length : Int) = 1 + 2 * zs.getD 0 0) := of_decide_eq_false h
/-- The first k numbers of a packed list. -/
def readL (zs : List Int) (k : Nat) : List Int := (List.range k).map fun (i : Nat) => get2 (zs.getD (1 + 2 * i) 0) (zs.getD (1 + 2 * i + 1) 0)
theorem readL_length (zs : List Int) (k : Nat) : (readL zs k).length = k := by simp [readL]
theorem readL_succ (zs : List Int) (k : Nat) : readL zs (k + 1) = readL zs k ++ [get2 (zs.getD (1 + 2 * k) 0) (zs.getD (1 + 2 * k + 1) 0)] := by simp [readL, List.range_succ]
def readC (zs : List Int) : Int := if packedB zs then 0 else 5
def readR (zs : List Int) : List Int := if packedB zs then readL zs (zs.getD 0 0).toNat else []
theorem readR_le (zs : List Int) : (readR zs).length ≤ 40 := by
  unfold readR
  split
  · rename_i h
    have := packed_of h
    rw [readL_length]; omega
  · simp

set_option maxRecDepth 100000 in
set_option maxHeartbeats 1000000 in
theorem isPacked_any (a : Option Addr) (cap : Nat) (zs : List Int) (w : World) (h : Row .u8 w a zs) (hu : ∀ i, 0 ≤ zs.getD i 0 ∧ zs.getD i 0 ≤ 255) (hl : zs.length ≤ 1048576) :
    Calls Try.prog 52 #[.slice a zs.length cap] w fun e w' => e = .returned (.bool (packedB zs)) ∧ w' = w := by
  by_cases h0 : zs.length = 0
  · have e : packedB zs = false := decide_eq_false (by omega)
    rw [e]
    clear e
    have h0' : ((zs.length : Int) == 0) = true := by simp [h0]
    clear h0
    go_enter Try.func52, Try.ntmps52
    go_wp2
    go_ret
    exact ⟨rfl, rfl⟩
  · obtain ⟨b, off, rfl, hbs, hc⟩ := h 0 (by omega)
    rw [Nat.add_zero] at hc
    have hb := hu 0
    have hp : packedB zs = decide (zs.getD 0 0 ≤ 40 ∧ (zs.length : Int) = 1 + 2 * zs.getD 0 0) := by
      unfold packedB
      simp only [decide_eq_decide]
      omega
    rw [hp]
    clear hp
    generalize zs.getD 0 0 = c at *
    generalize zs.length = n at *
    by_cases h1 : 40 < c
    · have e : decide (c ≤ 40 ∧ (n : Int) = 1 + 2 * c) = false := decide_eq_false (by omega)
      rw [e]
      clear e
      go_enter Try.func52, Try.ntmps52
      go_wp2
      go_ret
      exact ⟨rfl, rfl⟩
    · by_cases h2 : (n : Int) = 1 + 2 * c
      · have e : decide (c ≤ 40 ∧ (n : Int) = 1 + 2 * c) = true := decide_eq_true (by omega)
        rw [e]
        clear e
        have h3 : ((n : Int) == 1 + c * 2) = true := by simp; omega
        have H2 : Hid ((n : Int) = 1 + 2 * c) := h2
        clear h2
        go_enter Try.func52, Try.ntmps52
        go_wp2
        go_ret
        exact ⟨rfl, rfl⟩
      · have e : decide (c ≤ 40 ∧ (n : Int) = 1 + 2 * c) = false := decide_eq_false (by omega)
        rw [e]
        clear e
        have h3 : ((n : Int) == 1 + c * 2) = false := by simp; omega
        clear h2
        go_enter Try.func52, Try.ntmps52
        go_wp2
        go_ret
        exact ⟨rfl, rfl⟩

set_option maxRecDepth 100000 in
set_option maxHeartbeats 1000000 in
theorem l1Read_no (a : Option Addr) (cap : Nat) (zs : List Int) (w : World) (h : Row .u8 w a zs) (hu : ∀ i, 0 ≤ zs.getD i 0 ∧ zs.getD i 0 ≤ 255) (hl : zs.length ≤ 1048576) (hp : packedB zs = false) :
    Calls Try.prog 55 #[.slice a zs.length cap] w fun e w' => e = .returned (.tuple #[.slice none 0 0, .bool false]) ∧ w' = w := by
  have hp := packed_not hp
  by_cases h0 : zs.length < 1
  · go_enter Try.func55, Try.ntmps55
    go_wp2
    go_ret2
    exact ⟨rfl, rfl⟩
  · obtain ⟨b, off, rfl, hbs, hc⟩ := h 0 (by omega)
    rw [Nat.add_zero] at hc
    have hb := hu 0
    generalize zs.getD 0 0 = c at *
    generalize zs.length = n at *
    by_cases h1 : 40 < c
    · clear hp
      go_enter Try.func55, Try.ntmps55
      go_wp2
      go_ret2
      exact ⟨rfl, rfl⟩
    · have h3 : ((n : Int) != 1 + 2 * c) = true := by simp; omega
      clear hp
      go_enter Try.func55, Try.ntmps55
      go_wp2
      go_ret2
      exact ⟨rfl, rfl⟩

set_option maxRecDepth 100000 in
set_option maxHeartbeats 2000000 in
theorem l1Read_yes (a : Option Addr) (cap : Nat) (zs : List Int) (w : World) (h : Row .u8 w a zs) (hu : ∀ i, 0 ≤ zs.getD i 0 ∧ zs.getD i 0 ≤ 255) (hl : zs.length ≤ 1048576) (n : Nat) (hn : zs.getD 0 0 = (n : Int)) (h40 : n ≤ 40) (hlen : zs.length = 1 + 2 * n) :
    Calls Try.prog 55 #[.slice a zs.length cap] w fun e w' => ∃ b c, e = .returned (.tuple #[.slice b (readL zs n).length c, .bool true]) ∧ w'.ownsRow w.heap.size 2 1 (.slice b (readL zs n).length c) (readL zs n).length ((readL zs n).map (Value.int .i64)) ∧ Below w.heap.size w w' := by
  obtain ⟨i0, hi, hz0, hz1, hz2⟩ := info_parts infoI64
  have hc : ∃ b off, a = some ⟨b, off, none⟩ ∧ w.cell? ⟨b, off, none⟩ = some (.int .u8 (n : Int)) := by
    obtain ⟨b, off, rfl, hbs, hc⟩ := h 0 (by omega)
    exact ⟨b, off, rfl, by rw [← hn]; exact hc⟩
  obtain ⟨b, off, rfl, hc⟩ := hc
  have h3 : ((zs.length : Int) != 1 + 2 * (n : Int)) = false := by simp; omega
  have h4 : 1 ≤ zs.length := by omega
  have HL : Hid (zs.length = 1 + 2 * n) := hlen
  clear hlen hn
  go_enter Try.func55, Try.ntmps55
  go_wp2
  go_loopw [4, 5] (fun v i wr => ∃ k : Nat, k ≤ n ∧ i = .int .i64 (1 + 2 * (k : Int)) ∧ wr.ownsRow w.heap.size 2 1 v (readL zs k).length ((readL zs k).map (Value.int .i64)) ∧ Below w.heap.size w wr) (fun _ i _ => zs.length - (intOf i).toNat)
  case atStart => exact ⟨0, Nat.zero_le _, rfl, World.ownsRow_lit w #[] 0 (Nat.le_refl _) (by decide) rfl, by go_grown⟩
  case round =>
    obtain ⟨k, hk, rfl, ho, hb⟩ := hrel
    have hrl := readL_length zs k
    have hsz := hb.size
    have hle : zs.length ≤ 81 ∧ 1 + 2 * n ≤ zs.length ∧ zs.length ≤ 1 + 2 * n := by have := HL.out; omega
    by_cases hlt : k < n
    · have hg := fun w h => l1Get_any (some ⟨b, off, none⟩) cap zs (1 + 2 * k) w h hu (by omega) (by omega)
      have hrs : Hid (readL zs (k + 1) = readL zs k ++ [get2 (zs.getD (1 + 2 * k) 0) (zs.getD (1 + 2 * k + 1) 0)]) := readL_succ zs k
      generalize get2 (zs.getD (1 + 2 * k) 0) (zs.getD (1 + 2 * k + 1) 0) = r at hg hrs
      have hcast : ((1 + 2 * k : Nat) : Int) = 1 + 2 * (k : Int) := by omega
      rw [hcast] at hg
      clear hcast
      have hR : Row .u8 wr (some ⟨b, off, none⟩) zs := h.below hb
      go_wp2_with (first | (go_at_call 59; refine (hg _ hR).mono ?_; rintro e w' ⟨rfl, nn, rfl⟩) | (at_builtin; refine wpList_append_own _ rfl _ _ 56 rfl w.heap.size 2 i0 (.int .i64 0) 1 8 Try.underlying56 hi hz0 hz1 hz2 rfl (by decide) _ (readL zs k).length ((readL zs k).map (Value.int .i64)) rfl ?c0 ⟨_, 0, none⟩ 1 1 [.int .i64 r] rfl rfl ?c1 ?c2 ?c3 ?c4 ?c5 ?_))
      case c0 => exact (show (wr.drewN nn).ownsRow _ _ _ _ _ _ from ho).alloc _
      case c1 => exact cell_one_new _ _ _
      case c2 => intro u hu; simp at hu; subst hu; rfl
      case c3 => unfold maxLen; omega
      case c4 => omega
      case c5 => simp; omega
      intro v' w1 hown hgrow _
      have R : Hid (w1.ownsRow w.heap.size 2 1 v' (readL zs (k + 1)).length ((readL zs (k + 1)).map (Value.int .i64)) ∧ Below w.heap.size w w1) := by
        rw [hrs.out]
        exact ⟨by simpa [hrl] using hown, ((below_drewN hb nn).alloc hb.size _).grown hgrow (by simp; omega) (fun j hj => (ho.lt j hj).1)⟩
      clear hown hgrow ho
      go_wp2
      go_roundw
      case rel => exact ⟨k + 1, by omega, by go_num, R.out.1, R.out.2⟩
      case measure => simp [intOf]; omega
    · have hkl : k = n := by omega
      subst hkl
      obtain ⟨a1, c1, rfl⟩ := own_shape ho
      go_wp2
      go_ret2
      exact ⟨_, _, rfl, ho, hb⟩

set_option maxRecDepth 100000 in
set_option maxHeartbeats 2000000 in
theorem implRead_any (a : Option Addr) (cap : Nat) (zs : List Int) (w : World) (h : Row .u8 w a zs) (hu : ∀ i, 0 ≤ zs.getD i 0 ∧ zs.getD i 0 ≤ 255) (hl : zs.length ≤ 1048576) :
    Calls Try.prog 36 #[.slice a zs.length cap] w fun e w' => ∃ b c, e = .returned (.agg #[.int .i64 (readC zs), .slice b (readR zs).length c]) ∧
      w'.ownsRow w.heap.size 2 1 (.slice b (readR zs).length c) (readR zs).length ((readR zs).map (Value.int .i64)) ∧ Below w.heap.size w w' := by
  by_cases hp : packedB zs = true
  · obtain ⟨p1, p2, p3⟩ := packed_of hp
    have hb := hu 0
    have e1 : readC zs = 0 := by simp only [readC, if_pos hp]
    have e2 : readR zs = readL zs (zs.getD 0 0).toNat := by simp only [readR, if_pos hp]
    rw [e1, e2]
    clear e1 e2
    obtain ⟨i0, hi, hz0, hz1, hz2⟩ := info_parts infoI64
    obtain ⟨n, hn⟩ := Int.eq_ofNat_of_zero_le hb.1
    have hc : ∃ b off, a = some ⟨b, off, none⟩ ∧ b < w.heap.size ∧ w.cell? ⟨b, off, none⟩ = some (.int .u8 (n : Int)) := by
      obtain ⟨b, off, rfl, hbs, hc⟩ := h 0 (by omega)
      exact ⟨b, off, rfl, hbs, by rw [← hn]; exact hc⟩
    obtain ⟨b, off, rfl, hbs, hc⟩ := hc
    rw [hn, Int.toNat_natCast]
    have h40 : n ≤ 40 := by omega
    have h4 : 1 ≤ zs.length := by omega
    have hle : zs.length ≤ 81 ∧ 1 + 2 * n ≤ zs.length ∧ zs.length ≤ 1 + 2 * n := by omega
    clear p1 p2 p3 hb hn
    go_enter Try.func36, Try.ntmps36
    go_wp2_with (first | (go_at_call 52; refine (isPacked_any _ cap zs _ (h.below (by go_grown)) hu hl).mono ?_; rintro e w' ⟨rfl, rfl⟩))
    have hR0 : Row .u8 (w.alloc (.cells #[.int .i64 0, .slice none 0 0] 58)) (some ⟨b, off, none⟩) zs := h.below (by go_grown)
    generalize hW : w.alloc (.cells #[.int .i64 0, .slice none 0 0] 58) = W at hR0
    have hs : w.heap.size < W.heap.size := by rw [← hW]; simp
    go_loopw [3, 13] (fun v i wr => ∃ k : Nat, k ≤ n ∧ i = .int .i64 k ∧ wr.ownsRow W.heap.size 2 1 v (readL zs k).length ((readL zs k).map (Value.int .i64)) ∧ Below W.heap.size W wr) (fun _ i _ => n - (intOf i).toNat)
    case atStart => exact ⟨0, Nat.zero_le _, rfl, World.ownsRow_nil _ _ _ _, Below.refl _ _⟩
    case round =>
      obtain ⟨k, hk, rfl, ho, hb⟩ := hrel
      have hrl := readL_length zs k
      have hsz := hb.size
      by_cases hlt : k < n
      · have hg := fun w h => shortAt_any (some ⟨b, off, none⟩) cap zs (1 + 2 * k) w h hu (by omega) (by omega)
        have hrs : Hid (readL zs (k + 1) = readL zs k ++ [get2 (zs.getD (1 + 2 * k) 0) (zs.getD (1 + 2 * k + 1) 0)]) := readL_succ zs k
        generalize get2 (zs.getD (1 + 2 * k) 0) (zs.getD (1 + 2 * k + 1) 0) = r at hg hrs
        have hcast : ((1 + 2 * k : Nat) : Int) = 1 + (k : Int) * 2 := by omega
        rw [hcast] at hg
        clear hcast
        have hR : Row .u8 wr (some ⟨b, off, none⟩) zs := hR0.below hb
        go_wp2_with (first | (go_at_call 53; refine (hg _ hR).mono ?_; rintro e w' ⟨rfl, nn, rfl⟩) | (at_builtin; refine wpList_append_own _ rfl _ _ 56 rfl W.heap.size 2 i0 (.int .i64 0) 1 8 Try.underlying56 hi hz0 hz1 hz2 rfl (by decide) _ (readL zs k).length ((readL zs k).map (Value.int .i64)) rfl ?c0 ⟨_, 0, none⟩ 1 1 [.int .i64 r] rfl rfl ?c1 ?c2 ?c3 ?c4 ?c5 ?_))
        case c0 => exact (show (wr.drewN nn).ownsRow _ _ _ _ _ _ from ho).alloc _
        case c1 => exact cell_one_new _ _ _
        case c2 => intro u hu; simp at hu; subst hu; rfl
        case c3 => unfold maxLen; omega
        case c4 => omega
        case c5 => simp; omega
        intro v' w1 hown hgrow _
        have R : Hid (w1.ownsRow W.heap.size 2 1 v' (readL zs (k + 1)).length ((readL zs (k + 1)).map (Value.int .i64)) ∧ Below W.heap.size W w1) := by
          rw [hrs.out]
          exact ⟨by simpa [hrl] using hown, ((below_drewN hb nn).alloc hb.size _).grown hgrow (by simp; omega) (fun j hj => (ho.lt j hj).1)⟩
        clear hown hgrow ho
        go_wp2
        go_roundw
        case rel => exact ⟨k + 1, by omega, by go_num, R.out.1, R.out.2⟩
        case measure => simp [intOf]; omega
      · have hkl : k = n := by omega
        subst hkl
        clear hrl
        obtain ⟨a1, c1, rfl⟩ := own_shape ho
        obtain ⟨hc', hf'⟩ := bcell hb
        have hp1 : wr.cell? ⟨w.heap.size, 0, none⟩ = some (.int .i64 0) := by rw [hc' _ _ (by omega), ← hW]; simp
        have hp2 : wr.cell? ⟨w.heap.size, 1, none⟩ = some (.slice none 0 0) := by rw [hc' _ _ (by omega), ← hW]; simp
        have hq1 : wr.frozen? ⟨w.heap.size, 0, none⟩ = false := by rw [hf' _ _ (by omega), ← hW]; simp
        have hq2 : wr.frozen? ⟨w.heap.size, 1, none⟩ = false := by rw [hf' _ _ (by omega), ← hW]; simp
        clear hc' hf'
        subst hW
        obtain ⟨r1, r2⟩ := ret_box ho hb (.int .i64 0) (.slice a1 (readL zs k).length c1)
        go_wp2
        exact bodyPost_ret (v := .agg #[.int .i64 0, .slice a1 (readL zs k).length c1]) (by simp [results, Try.results36, go_sem, hp1, hp2]) rfl ⟨a1, c1, rfl, r1, r2⟩
  · have hp' : packedB zs = false := by simpa using hp
    have e1 : readC zs = 5 := by simp only [readC, if_neg hp]
    have e2 : readR zs = [] := by simp only [readR, if_neg hp]
    rw [e1, e2]
    clear e1 e2 hp
    go_enter Try.func36, Try.ntmps36
    go_wp2_with (first | (go_at_call 52; refine (isPacked_any a cap zs _ (h.below (by go_grown)) hu hl).mono ?_; rintro e w' ⟨rfl, rfl⟩))
    exact bodyPost_ret (v := .agg #[.int .i64 5, .slice none 0 0]) (by simp [results, Try.results36, go_sem]) rfl ⟨_, _, rfl, World.ownsRow_nil _ _ _ _, by go_grown⟩

end Go.Proofs.Ytpdbjjklcejimaa

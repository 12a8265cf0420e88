/- What the model's functions of chapter 5 do: masks, votes and their counts. -/
import Derived.Test.YtonkbpnchcgmmaaDoorS5i
namespace Go.Proofs.YtonkbpnchcgmmaaDoor
open Go.RowKit
set_option linter.unusedVariables false
set_option linter.unusedSimpArgs false

set_option maxHeartbeats 1000000 in
theorem l5Size_any (m : Int) (w : World) (h : inB m 0 7 = true) :
    Calls Tryd.prog 50 #[.int .i64 m] w fun e w' => e = .returned (.int .i64 (pop3 m)) ∧ Below w.heap.size w w' := by
  have hm := of_decide_eq_true h
  rw [← bits16 h]
  have hle := bitsL_le m 16
  have h1 := l1Bits_any m w hm.1 (by omega)
  generalize (bitsL m 16).length = n at *
  go_enter Tryd.func50, Tryd.ntmps50
  go_wp2_with fail
  refine h1.mono ?_
  rintro e w1 ⟨a, c, rfl, ho, hb⟩
  clear ho
  go_wp2
  go_ret
  exact ⟨rfl, hb⟩

set_option maxHeartbeats 1000000 in
theorem l5Quorum_any (m : Int) (w : World) :
    Calls Tryd.prog 46 #[.int .i64 m] w fun e w' => e = .returned (.bool (isQ m)) ∧ Below w.heap.size w w' := by
  by_cases h : inB m 0 7 = true
  · have hn := fun w => l5Size_any m w h
    go_enter Tryd.func46, Tryd.ntmps46
    go_wp2_with (first | (go_at_call 38; refine (l1In_any _ _ _ _).mono ?_; rintro e w' ⟨rfl, rfl⟩) | (go_at_call 50; refine (hn _).mono ?_; rintro e w' ⟨rfl, hb⟩))
    go_ret
    exact ⟨by simp [isQ, h], hb⟩
  · have h' : inB m 0 7 = false := by simpa using h
    clear h
    go_enter Tryd.func46, Tryd.ntmps46
    go_wp2_with (go_at_call 38; refine (l1In_any _ _ _ _).mono ?_; rintro e w' ⟨rfl, rfl⟩)
    go_ret
    exact ⟨by simp [isQ, h'], Below.refl _ _⟩

set_option maxHeartbeats 2000000 in
theorem l5Votes_any (a : Option Addr) (cap : Nat) (zs : List Int) (most : Int) (w : World) (h : Row .i64 w a zs) (hm : zs.length ≤ 9223372036854775807) :
    Calls Tryd.prog 35 #[.slice a zs.length cap, .int .i64 most] w fun e w' => e = .returned (.int .i64 (vf zs most)) ∧ Below w.heap.size w w' := by
  by_cases hl : zs.length = 3
  · have e0 : vf zs most = if zs.all (vOk most) then 0 else 3 := by simp [vf, hl]
    have E1 : Hid (zs.all (vOk most) = true → vf zs most = 0) := fun h => by rw [e0, h]; rfl
    have E2 : Hid (zs.all (vOk most) = false → vf zs most = 3) := fun h => by rw [e0, h]; rfl
    clear e0
    generalize vf zs most = E at E1 E2 ⊢
    rw [hl]
    go_enter Tryd.func35, Tryd.ntmps35
    go_wp2
    go_loop [5] (fun i => ∃ k : Nat, k ≤ 3 ∧ i = .int .i64 k ∧ (zs.take k).all (vOk most) = true) (fun i => 3 - (intOf i).toNat)
    case atStart => exact ⟨0, Nat.zero_le _, rfl, by simp⟩
    case round =>
      obtain ⟨k, hk, rfl, hall⟩ := hrel
      by_cases hlt3 : k < 3
      · have hlt : k < zs.length := by omega
        obtain ⟨b, off, rfl, hbs, hc⟩ := h k hlt
        have hT : Hid (vOk most (zs.getD k 0) = true → (zs.take (k + 1)).all (vOk most) = true) := fun hx => take_all zs _ k hall hlt hx
        have hF : Hid (vOk most (zs.getD k 0) = false → zs.all (vOk most) = false) := fun hx => not_all zs _ k hlt hx
        clear hall
        generalize zs.getD k 0 = z at hc hT hF
        by_cases h1 : inB z 0 most = true
        · have hx : vOk most z = true := by simp [vOk, h1]
          have R : Hid ((zs.take (k + 1)).all (vOk most) = true) := hT.out hx
          clear hT hF hx
          go_wp2_with (go_at_call 38; refine (l1In_any _ _ _ _).mono ?_; rintro e w' ⟨rfl, rfl⟩)
          go_round
          case rel => exact ⟨k + 1, by omega, by go_num, R.out⟩
          case measure => simp [intOf]; omega
        · have h1' : inB z 0 most = false := by simpa using h1
          clear h1
          by_cases h3 : z = 3
          · subst h3
            have hx : vOk most 3 = true := by simp [vOk]
            have R : Hid ((zs.take (k + 1)).all (vOk most) = true) := hT.out hx
            clear hT hF hx
            go_wp2_with (go_at_call 38; refine (l1In_any _ _ _ _).mono ?_; rintro e w' ⟨rfl, rfl⟩)
            go_round
            case rel => exact ⟨k + 1, by omega, by go_num, R.out⟩
            case measure => simp [intOf]; omega
          · have h3' : (z != 3) = true := by simpa using h3
            have hx : vOk most z = false := by simp [vOk, h1', h3]
            have R : Hid (zs.all (vOk most) = false) := hF.out hx
            clear hT hF hx h3
            go_wp2_with (go_at_call 38; refine (l1In_any _ _ _ _).mono ?_; rintro e w' ⟨rfl, rfl⟩)
            go_ret
            exact ⟨by rw [E2.out R.out]; rfl, Below.refl _ _⟩
      · go_wp2
        go_ret
        rw [List.take_of_length_le (by omega)] at hall
        exact ⟨by rw [E1.out hall]; rfl, Below.refl _ _⟩
  · have e0 : vf zs most = 2 := by simp [vf, hl]
    rw [e0]
    have hl' : ((zs.length : Int) != 3) = true := by simp; omega
    clear hl
    go_enter Tryd.func35, Tryd.ntmps35
    go_wp2
    go_ret
    exact ⟨rfl, Below.refl _ _⟩

/-- How many of the first k voted so. -/
def cntB (p q r : Bool) (k : Nat) : Int := sum3 (decide (0 < k) && p) (decide (1 < k) && q) (decide (2 < k) && r)
theorem cntB_yes (p q r : Bool) (k : Nat) (hk : k < 3) (h : [p, q, r].getD k false = true) : cntB p q r k + 1 = cntB p q r (k + 1) := by
  match k, hk with
  | 0, _ => revert h; cases p <;> cases q <;> cases r <;> decide +kernel
  | 1, _ => revert h; cases p <;> cases q <;> cases r <;> decide +kernel
  | 2, _ => revert h; cases p <;> cases q <;> cases r <;> decide +kernel
theorem cntB_no (p q r : Bool) (k : Nat) (hk : k < 3) (h : [p, q, r].getD k false = false) : cntB p q r (k + 1) = cntB p q r k := by
  match k, hk with
  | 0, _ => revert h; cases p <;> cases q <;> cases r <;> decide +kernel
  | 1, _ => revert h; cases p <;> cases q <;> cases r <;> decide +kernel
  | 2, _ => revert h; cases p <;> cases q <;> cases r <;> decide +kernel
theorem bool_at2 (m : Int) (zs : List Int) (v : Int) (k : Nat) (hk : k < 3) : [bitB m 0 && (zs.getD 0 0 == v), bitB m 1 && (zs.getD 1 0 == v), bitB m 2 && (zs.getD 2 0 == v)].getD k false = (bitB m k && (zs.getD k 0 == v)) := by
  match k, hk with
  | 0, _ => rfl
  | 1, _ => rfl
  | 2, _ => rfl

set_option maxHeartbeats 2000000 in
theorem l5Count_any (a : Option Addr) (cap : Nat) (zs : List Int) (m v : Int) (w : World) (h : Row .i64 w a zs) (hl : zs.length = 3) (hm : inB m 0 7 = true) :
    Calls Tryd.prog 47 #[.slice a 3 cap, .int .i64 m, .int .i64 v] w fun e w' => e = .returned (.int .i64 (cnt m zs v)) ∧ Below w.heap.size w w' := by
  have hat := bool_at2 m zs v
  have hmi := of_decide_eq_true hm
  have h3 : cnt m zs v = cntB (bitB m 0 && (zs.getD 0 0 == v)) (bitB m 1 && (zs.getD 1 0 == v)) (bitB m 2 && (zs.getD 2 0 == v)) 3 := by simp [cntB, cnt]
  rw [h3]
  clear h3
  generalize (bitB m 0 && (zs.getD 0 0 == v)) = p at hat ⊢
  generalize (bitB m 1 && (zs.getD 1 0 == v)) = q at hat ⊢
  generalize (bitB m 2 && (zs.getD 2 0 == v)) = r at hat ⊢
  generalize hE : cntB p q r 3 = E
  have hci : ∀ k, 0 ≤ cntB p q r k ∧ cntB p q r k ≤ 3 := fun k => sum3_in _ _ _
  go_enter Tryd.func47, Tryd.ntmps47
  go_wp2
  go_loopw [7, 8] (fun c i wr => ∃ k n : Nat, k ≤ 3 ∧ c = .int .i64 (cntB p q r k) ∧ i = .int .i64 k ∧ wr = w.drewN n) (fun _ i _ => 3 - (intOf i).toNat)
  case atStart => exact ⟨0, 0, Nat.zero_le _, rfl, rfl, rfl⟩
  case round =>
    obtain ⟨k, n, hk, rfl, rfl, rfl⟩ := hrel
    by_cases hlt : k < 3
    · obtain ⟨b, off, rfl, hbs, hc⟩ := h k (by omega)
      have hk2 := hat k hlt
      have hck := hci k
      have hhas := fun w => l1Has_any m k w hmi.1 (by omega) (by omega)
      by_cases hz : (bitB m k && (zs.getD k 0 == v)) = true
      · have R : Hid (cntB p q r k + 1 = cntB p q r (k + 1)) := cntB_yes p q r k hlt (hk2.trans hz)
        clear hk2
        generalize zs.getD k 0 = z at hc hz
        generalize bitB m k = t at hhas hz
        rw [Bool.and_eq_true] at hz
        obtain ⟨rfl, hz⟩ := hz
        generalize cntB p q r k = c at R hck ⊢
        generalize hd : cntB p q r (k + 1) = d at R
        clear hat hci
        go_wp2_with (go_at_call 51; refine (hhas _).mono ?_; rintro e w' ⟨rfl, rfl⟩)
        go_roundw
        case rel => exact ⟨k + 1, _, by omega, by rw [hd, ← R.out], by go_num, rfl⟩
        case measure => simp [intOf]; omega
      · have hz' : (bitB m k && (zs.getD k 0 == v)) = false := by simpa using hz
        clear hz
        have R : Hid (cntB p q r k = cntB p q r (k + 1)) := (cntB_no p q r k hlt (hk2.trans hz')).symm
        clear hk2
        generalize zs.getD k 0 = z at hc hz'
        generalize bitB m k = t at hhas hz'
        generalize cntB p q r k = c at R hck ⊢
        clear hat hci
        cases t
        · clear hz'
          go_wp2_with (go_at_call 51; refine (hhas _).mono ?_; rintro e w' ⟨rfl, rfl⟩)
          go_roundw
          case rel => exact ⟨k + 1, _, by omega, by rw [R.out], by go_num, rfl⟩
          case measure => simp [intOf]; omega
        · rw [Bool.true_and] at hz'
          go_wp2_with (go_at_call 51; refine (hhas _).mono ?_; rintro e w' ⟨rfl, rfl⟩)
          go_roundw
          case rel => exact ⟨k + 1, _, by omega, by rw [R.out], by go_num, rfl⟩
          case measure => simp [intOf]; omega
    · have hkl : k = 3 := by omega
      subst hkl
      rw [hE]
      go_wp2
      go_ret
      exact ⟨rfl, below_drewN (Below.refl _ _) _⟩

theorem votesFault_b (a : Option Addr) (cap : Nat) (zs : List Int) (most : Int) (w : World) (h : Row .i64 w a zs) (hm : zs.length ≤ 9223372036854775807) :
    Calls Tryd.prog 28 #[.slice a zs.length cap, .int .i64 most] w fun e w' => e = .returned (.int .i64 (vfault zs most)) ∧ Below w.heap.size w w' :=
  (votesFault_any a cap zs most w h hm).mono (by rintro e w' ⟨he, hw⟩; subst hw; exact ⟨he, Below.refl _ _⟩)

end Go.Proofs.YtonkbpnchcgmmaaDoor

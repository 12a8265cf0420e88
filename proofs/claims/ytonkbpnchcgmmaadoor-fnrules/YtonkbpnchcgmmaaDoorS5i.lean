/- What the program's functions of chapter 5 do that need no table: masks, votes and their counts. -/
import Derived.Test.YtonkbpnchcgmmaaDoorS5
namespace Go.Proofs.YtonkbpnchcgmmaaDoor
open Go.RowKit
set_option linter.unusedVariables false
set_option linter.unusedSimpArgs false

set_option maxHeartbeats 1000000 in
theorem isMask_any (m : Int) (w : World) :
    Calls Tryd.prog 48 #[.int .i64 m] w fun e w' => e = .returned (.bool (inB m 0 7)) ∧ w' = w := by
  go_enter Tryd.func48, Tryd.ntmps48
  go_wp2_with (go_at_call 33; refine (within_any _ _ _ _).mono ?_; rintro e w' ⟨rfl, rfl⟩)
  go_ret
  exact ⟨rfl, rfl⟩

set_option maxHeartbeats 4000000 in
theorem nodesIn_any (m : Int) (w : World) (h : inB m 0 7 = true) :
    Calls Tryd.prog 45 #[.int .i64 m] w fun e w' => e = .returned (.int .i64 (pop3 m)) ∧ w' = w := by
  rcases eight h with rfl | rfl | rfl | rfl | rfl | rfl | rfl | rfl
  all_goals
    clear h
    go_enter Tryd.func45, Tryd.ntmps45
    go_wp2
    go_ret
    exact ⟨by kernel_rfl, rfl⟩

set_option maxHeartbeats 1000000 in
theorem isQuorum_any (m : Int) (w : World) :
    Calls Tryd.prog 42 #[.int .i64 m] w fun e w' => e = .returned (.bool (isQ m)) ∧ w' = w := by
  by_cases h : inB m 0 7 = true
  · have hn := fun w => nodesIn_any m w h
    go_enter Tryd.func42, Tryd.ntmps42
    go_wp2_with (first | (go_at_call 48; refine (isMask_any _ _).mono ?_; rintro e w' ⟨rfl, rfl⟩) | (go_at_call 45; refine (hn _).mono ?_; rintro e w' ⟨rfl, rfl⟩))
    go_ret
    exact ⟨by simp [isQ, h], rfl⟩
  · have h' : inB m 0 7 = false := by simpa using h
    clear h
    go_enter Tryd.func42, Tryd.ntmps42
    go_wp2_with (go_at_call 48; refine (isMask_any _ _).mono ?_; rintro e w' ⟨rfl, rfl⟩)
    go_ret
    exact ⟨by simp [isQ, h'], rfl⟩

theorem take_all (zs : List Int) (p : Int → Bool) (k : Nat) (h : (zs.take k).all p = true) (hk : k < zs.length) (hx : p (zs.getD k 0) = true) : (zs.take (k + 1)).all p = true := by
  rw [List.take_succ_eq_append_getElem hk, List.all_append, h]
  have e : zs[k] = zs.getD k 0 := by simp [List.getD, hk]
  rw [e, List.all_cons, hx]
  rfl
theorem not_all (zs : List Int) (p : Int → Bool) (k : Nat) (hk : k < zs.length) (hx : p (zs.getD k 0) = false) : zs.all p = false := by
  rw [List.all_eq_false]
  exact ⟨zs.getD k 0, by simp [List.getD, hk], by rw [hx]; decide⟩

set_option maxHeartbeats 2000000 in
theorem votesFault_any (a : Option Addr) (cap : Nat) (zs : List Int) (most : Int) (w : World) (h : Row .i64 w a zs) (hm : zs.length ≤ 9223372036854775807) :
    Calls Tryd.prog 28 #[.slice a zs.length cap, .int .i64 most] w fun e w' => e = .returned (.int .i64 (vfault zs most)) ∧ w' = w := by
  by_cases hin : inB most 1 2 = true
  · by_cases hl : zs.length = 3
    · have e0 : vfault zs most = if zs.all (vOk most) then 0 else 3 := by simp [vfault, vf, hin, hl]
      have E1 : Hid (zs.all (vOk most) = true → vfault zs most = 0) := fun h => by rw [e0, h]; rfl
      have E2 : Hid (zs.all (vOk most) = false → vfault zs most = 3) := fun h => by rw [e0, h]; rfl
      clear e0
      generalize vfault zs most = E at E1 E2 ⊢
      have hl' : ((zs.length : Int) != 3) = false := by simp [hl]
      go_enter Tryd.func28, Tryd.ntmps28
      go_wp2_with (go_at_call 33; refine (within_any _ _ _ _).mono ?_; rintro e w' ⟨rfl, rfl⟩)
      go_loop [15] (fun i => ∃ k : Nat, k ≤ zs.length ∧ i = .int .i64 k ∧ (zs.take k).all (vOk most) = true) (fun i => zs.length - (intOf i).toNat)
      case atStart => exact ⟨0, Nat.zero_le _, rfl, by simp⟩
      case round =>
        obtain ⟨k, hk, rfl, hall⟩ := hrel
        by_cases hlt : k < zs.length
        · obtain ⟨b, off, rfl, hbs, hc⟩ := h k hlt
          have hT : Hid (vOk most (zs.getD k 0) = true → (zs.take (k + 1)).all (vOk most) = true) := fun hx => take_all zs _ k hall hlt hx
          have hF : Hid (vOk most (zs.getD k 0) = false → zs.all (vOk most) = false) := fun hx => not_all zs _ k hlt hx
          clear hall
          generalize zs.getD k 0 = z at hc hT hF
          by_cases h1 : inB z 0 most = true
          · have hx : vOk most z = true := by simp [vOk, h1]
            have R : Hid ((zs.take (k + 1)).all (vOk most) = true) := hT.out hx
            clear hT hF hx
            go_wp2_with (go_at_call 33; refine (within_any _ _ _ _).mono ?_; rintro e w' ⟨rfl, rfl⟩)
            go_round
            case rel => exact ⟨k + 1, by omega, by go_num, R.out⟩
            case measure => simp [intOf]; omega
          · have h1' : inB z 0 most = false := by simpa using h1
            clear h1
            by_cases h3 : z = 3
            · subst h3
              have hx : vOk most 3 = true := by simp [vOk]
              have R : Hid ((zs.take (k + 1)).all (vOk most) = true) := hT.out hx
              clear hT hF hx
              go_wp2_with (go_at_call 33; refine (within_any _ _ _ _).mono ?_; rintro e w' ⟨rfl, rfl⟩)
              go_round
              case rel => exact ⟨k + 1, by omega, by go_num, R.out⟩
              case measure => simp [intOf]; omega
            · have h3' : (z != 3) = true := by simpa using h3
              have hx : vOk most z = false := by simp [vOk, h1', h3]
              have R : Hid (zs.all (vOk most) = false) := hF.out hx
              clear hT hF hx h3
              go_wp2_with (go_at_call 33; refine (within_any _ _ _ _).mono ?_; rintro e w' ⟨rfl, rfl⟩)
              go_ret
              exact ⟨by rw [E2.out R.out]; rfl, rfl⟩
        · go_wp2
          go_ret
          rw [List.take_of_length_le (by omega)] at hall
          exact ⟨by rw [E1.out hall]; rfl, rfl⟩
    · have e0 : vfault zs most = 2 := by simp [vfault, vf, hin, hl]
      rw [e0]
      have hl' : ((zs.length : Int) != 3) = true := by simp; omega
      clear hl
      go_enter Tryd.func28, Tryd.ntmps28
      go_wp2_with (go_at_call 33; refine (within_any _ _ _ _).mono ?_; rintro e w' ⟨rfl, rfl⟩)
      go_ret
      exact ⟨rfl, rfl⟩
  · have h' : inB most 1 2 = false := by simpa using hin
    have e0 : vfault zs most = 3 := by simp [vfault, h']
    rw [e0]
    clear hin
    go_enter Tryd.func28, Tryd.ntmps28
    go_wp2_with (go_at_call 33; refine (within_any _ _ _ _).mono ?_; rintro e w' ⟨rfl, rfl⟩)
    go_ret
    exact ⟨rfl, rfl⟩

/-- The mask of those among the first k that voted v. -/
def votB (p q r : Bool) (k : Nat) : Int := vot3 (decide (0 < k) && p) (decide (1 < k) && q) (decide (2 < k) && r)
theorem votB_or (p q r : Bool) (k : Nat) (hk : k < 3) (h : [p, q, r].getD k false = true) : bits .or .i64 (votB p q r k) (wrap64 (2 ^ k)) = votB p q r (k + 1) := by
  match k, hk with
  | 0, _ => revert h; cases p <;> cases q <;> cases r <;> decide +kernel
  | 1, _ => revert h; cases p <;> cases q <;> cases r <;> decide +kernel
  | 2, _ => revert h; cases p <;> cases q <;> cases r <;> decide +kernel
theorem votB_no (p q r : Bool) (k : Nat) (hk : k < 3) (h : [p, q, r].getD k false = false) : votB p q r (k + 1) = votB p q r k := by
  match k, hk with
  | 0, _ => revert h; cases p <;> cases q <;> cases r <;> decide +kernel
  | 1, _ => revert h; cases p <;> cases q <;> cases r <;> decide +kernel
  | 2, _ => revert h; cases p <;> cases q <;> cases r <;> decide +kernel
theorem bool_at (zs : List Int) (v : Int) (k : Nat) (hk : k < 3) : [zs.getD 0 0 == v, zs.getD 1 0 == v, zs.getD 2 0 == v].getD k false = (zs.getD k 0 == v) := by
  match k, hk with
  | 0, _ => rfl
  | 1, _ => rfl
  | 2, _ => rfl

set_option maxHeartbeats 2000000 in
theorem votersOf_any (a : Option Addr) (cap : Nat) (zs : List Int) (v : Int) (w : World) (h : Row .i64 w a zs) (hl : zs.length = 3) :
    Calls Tryd.prog 43 #[.slice a 3 cap, .int .i64 v] w fun e w' => e = .returned (.int .i64 (vot zs v)) ∧ w' = w := by
  have hat := bool_at zs v
  have h3 : vot zs v = votB (zs.getD 0 0 == v) (zs.getD 1 0 == v) (zs.getD 2 0 == v) 3 := by simp [votB, vot]
  rw [h3]
  clear h3
  generalize (zs.getD 0 0 == v) = p at hat ⊢
  generalize (zs.getD 1 0 == v) = q at hat ⊢
  generalize (zs.getD 2 0 == v) = r at hat ⊢
  generalize hE : votB p q r 3 = E
  go_enter Tryd.func43, Tryd.ntmps43
  go_wp2
  go_loop [5, 10] (fun c i => ∃ k : Nat, k ≤ 3 ∧ c = .int .i64 (votB p q r k) ∧ i = .int .i64 k) (fun _ i => 3 - (intOf i).toNat)
  case atStart => exact ⟨0, Nat.zero_le _, rfl, rfl⟩
  case round =>
    obtain ⟨k, hk, rfl, rfl⟩ := hrel
    by_cases hlt : k < 3
    · obtain ⟨b, off, rfl, hbs, hc⟩ := h k (by omega)
      have hk2 := hat k hlt
      by_cases hz : (zs.getD k 0 == v) = true
      · have R : Hid (bits .or .i64 (votB p q r k) (wrap64 (2 ^ k)) = votB p q r (k + 1)) := votB_or p q r k hlt (hk2.trans hz)
        clear hk2
        generalize zs.getD k 0 = z at hc hz
        generalize votB p q r k = c at R ⊢
        generalize hd : votB p q r (k + 1) = d at R
        go_wp2
        go_round
        case rel => exact ⟨k + 1, by omega, by rw [hd, ← R.out], by go_num⟩
        case measure => simp [intOf]; omega
      · have hz' : (zs.getD k 0 == v) = false := by simpa using hz
        clear hz
        have R : Hid (votB p q r k = votB p q r (k + 1)) := (votB_no p q r k hlt (hk2.trans hz')).symm
        clear hk2
        generalize zs.getD k 0 = z at hc hz'
        generalize votB p q r k = c at R ⊢
        go_wp2
        go_round
        case rel => exact ⟨k + 1, by omega, by rw [R.out], by go_num⟩
        case measure => simp [intOf]; omega
    · have hkl : k = 3 := by omega
      subst hkl
      rw [hE]
      go_wp2
      go_ret
      exact ⟨rfl, rfl⟩

end Go.Proofs.YtonkbpnchcgmmaaDoor

/- ItemsFault: the program's function and its model answer alike, by one plain function. No condition. -/
import Derived.Test.YtjaoggkpnjkkpaaD2g
import Derived.Test.YtjaoggkpnjkkpaaD3
namespace Go.Proofs.Ytjaoggkpnjkkpaa
open Go.RowKit
open Go.BigFrame
set_option linter.unusedVariables false
set_option linter.unusedSimpArgs false

/-- The first of f 0, f 1 .. f (n - 1) that is not 0; else 0. -/
def firstNZ (f : Nat → Int) : Nat → Int
  | 0 => 0
  | n + 1 => if firstNZ f n = 0 then f n else firstNZ f n

theorem firstNZ_none (f : Nat → Int) : ∀ n, (∀ j, j < n → f j = 0) → firstNZ f n = 0
  | 0, _ => rfl
  | n + 1, h => by
    have := firstNZ_none f n (fun j hj => h j (by omega))
    simp only [firstNZ, this, if_true]
    exact h n (by omega)

theorem firstNZ_first (f : Nat → Int) (k : Nat) (h : ∀ j, j < k → f j = 0) (hne : f k ≠ 0) : ∀ n, k < n → firstNZ f n = f k
  | 0, hk => by omega
  | n + 1, hk => by
    by_cases e : k = n
    · subst e
      simp only [firstNZ, firstNZ_none f k h, if_true]
    · have := firstNZ_first f k h hne n (by omega)
      simp only [firstNZ, this, hne, if_false]

theorem firstNZ_zero (f : Nat → Int) : ∀ n, firstNZ f n = 0 → ∀ j, j < n → f j = 0
  | 0, _, j, hj => by omega
  | n + 1, h, j, hj => by
    simp only [firstNZ] at h
    by_cases e : firstNZ f n = 0
    · rw [if_pos e] at h
      by_cases ej : j = n
      · subst ej; exact h
      · exact firstNZ_zero f n e j (by omega)
    · rw [if_neg e] at h; exact absurd h e

def prevK (xs : List ItemD) (k : Nat) : Int := if k = 0 then 0 else (xs.getD (k - 1) itemNo).key

def itF (xs : List ItemD) (k : Nat) : Int :=
  if inW (xs.getD k itemNo).key 1 20 = false ∨ inW (xs.getD k itemNo).val (-20000) 20000 = false then 3
  else if (xs.getD k itemNo).key ≤ prevK xs k then 1 else 0

def itemsF (xs : List ItemD) : Int := if 8 < xs.length then 2 else firstNZ (itF xs) xs.length

theorem itF_ways (xs : List ItemD) (k : Nat) :
    (inW (xs.getD k itemNo).key 1 20 = false ∧ itF xs k = 3) ∨ (inW (xs.getD k itemNo).key 1 20 = true ∧ inW (xs.getD k itemNo).val (-20000) 20000 = false ∧ itF xs k = 3) ∨
    (inW (xs.getD k itemNo).key 1 20 = true ∧ inW (xs.getD k itemNo).val (-20000) 20000 = true ∧ (xs.getD k itemNo).key ≤ prevK xs k ∧ itF xs k = 1) ∨
    (inW (xs.getD k itemNo).key 1 20 = true ∧ inW (xs.getD k itemNo).val (-20000) 20000 = true ∧ ¬ (xs.getD k itemNo).key ≤ prevK xs k ∧ itF xs k = 0) := by
  unfold itF
  generalize xs.getD k itemNo = x
  generalize prevK xs k = p
  cases h1 : inW x.key 1 20 <;> cases h2 : inW x.val (-20000) 20000 <;> by_cases h3 : x.key ≤ p <;> simp [h3]

set_option maxHeartbeats 400000 in
theorem isItemValue_any (n : Int) (w : World) :
    Calls Try.prog 63 #[.int .i64 n] w fun e w' => e = .returned (.bool (inW n (-20000) 20000)) ∧ w' = w := by
  have hc := fun w => isWithin_any n (-20000) 20000 w
  generalize inW n (-20000) 20000 = r at hc
  go_enter Try.func63, Try.ntmps63
  go_wp2_with (go_at_call 62; refine (hc _).mono ?_; rintro e w' ⟨rfl, rfl⟩)
  go_ret
  exact ⟨rfl, rfl⟩

set_option maxHeartbeats 1000000 in
theorem implItemsFault_any (a : Option Addr) (cap : Nat) (zs : List ItemD) (w : World) (h : ItemRow w a zs) (hl : zs.length ≤ 1048576) :
    Calls Try.prog 51 #[.slice a zs.length cap] w fun e w' => e = .returned (.int .i64 (itemsF zs)) ∧ Below w.heap.size w w' := by
  by_cases h8 : 8 < zs.length
  · have E : itemsF zs = 2 := if_pos h8
    rw [E]
    go_enter Try.func51, Try.ntmps51
    go_wp2
    go_ret
    exact ⟨rfl, Below.refl _ _⟩
  have E : itemsF zs = firstNZ (itF zs) zs.length := if_neg h8
  rw [E]
  clear E
  go_enter Try.func51, Try.ntmps51
  go_wp2
  go_loopw [3, 11] (fun l j wr => ∃ k : Nat, k ≤ zs.length ∧ j = .int .i64 k ∧ l = .int .i64 (prevK zs k) ∧ Below w.heap.size w wr ∧ Hid (∀ j, j < k → itF zs j = 0)) (fun _ j _ => zs.length - (intOf j).toNat)
  case atStart => exact ⟨0, Nat.zero_le _, rfl, rfl, Below.refl _ _, fun j hj => absurd hj (Nat.not_lt_zero _)⟩
  case round =>
    obtain ⟨k, hk, rfl, rfl, hb, HA⟩ := hrel
    by_cases hlt : k < zs.length
    · obtain ⟨b, off, rfl, hbs, hc0, hc1⟩ := (h.below hb).at k hlt
      have hsz := hb.size
      have HK : Hid (prevK zs (k + 1) = (zs.getD k itemNo).key) := if_neg (Nat.succ_ne_zero k)
      rcases itF_ways zs k with ⟨h1, hF⟩ | ⟨h1, h2, hF⟩ | ⟨h1, h2, h3, hF⟩ | ⟨h1, h2, h3, hF⟩
      case inr.inr.inr =>
        have HB : Hid (∀ j, j < k + 1 → itF zs j = 0) := by
          intro j hj
          by_cases hjk : j = k
          · subst hjk; exact hF
          · exact HA.out j (by omega)
        clear HA hF
        generalize prevK zs k = p at h3
        generalize zs.getD k itemNo = z at hc0 hc1 h1 h2 h3 HK
        obtain ⟨z0, z1⟩ := z
        dsimp only at hc0 hc1 h1 h2 h3 HK
        go_wp2_with (first | (go_at_call 62; refine (isWithin_any _ _ _ _).mono ?_; rintro e w' ⟨rfl, rfl⟩) | (go_at_call 63; refine (isItemValue_any _ _).mono ?_; rintro e w' ⟨rfl, rfl⟩))
        go_roundw
        case rel => exact ⟨k + 1, by omega, by go_num, by rw [HK.out], by go_grown, HB⟩
        case measure => simp [intOf]; omega
      all_goals
        have E : Hid (firstNZ (itF zs) zs.length = _) := firstNZ_first (itF zs) k HA.out (by rw [hF]; decide) zs.length hlt
        rw [hF] at E
        clear HA hF HK
        generalize prevK zs k = p at *
        generalize zs.getD k itemNo = z at *
        obtain ⟨z0, z1⟩ := z
        dsimp only at *
        go_wp2_with (first | (go_at_call 62; refine (isWithin_any _ _ _ _).mono ?_; rintro e w' ⟨rfl, rfl⟩) | (go_at_call 63; refine (isItemValue_any _ _).mono ?_; rintro e w' ⟨rfl, rfl⟩))
        go_ret
        rw [E.out]
        exact ⟨rfl, by go_grown⟩
    · have hkl : k = zs.length := by omega
      subst hkl
      have E : Hid (firstNZ (itF zs) zs.length = 0) := firstNZ_none _ _ HA.out
      clear HA
      go_wp2
      go_ret
      rw [E.out]
      exact ⟨rfl, hb⟩

set_option maxHeartbeats 1000000 in
theorem l3Fault_any (a : Option Addr) (cap : Nat) (zs : List ItemD) (w : World) (h : ItemRow w a zs) (hl : zs.length ≤ 1048576) :
    Calls Try.prog 58 #[.slice a zs.length cap] w fun e w' => e = .returned (.int .i64 (itemsF zs)) ∧ Below w.heap.size w w' := by
  by_cases h8 : 8 < zs.length
  · have E : itemsF zs = 2 := if_pos h8
    rw [E]
    go_enter Try.func58, Try.ntmps58
    go_wp2
    go_ret
    exact ⟨rfl, Below.refl _ _⟩
  have E : itemsF zs = firstNZ (itF zs) zs.length := if_neg h8
  rw [E]
  clear E
  go_enter Try.func58, Try.ntmps58
  go_wp2
  go_loopw [3] (fun j wr => ∃ k : Nat, k ≤ zs.length ∧ j = .int .i64 k ∧ Below w.heap.size w wr ∧ Hid (∀ j, j < k → itF zs j = 0)) (fun j _ => zs.length - (intOf j).toNat)
  case atStart => exact ⟨0, Nat.zero_le _, rfl, Below.refl _ _, fun j hj => absurd hj (Nat.not_lt_zero _)⟩
  case round =>
    obtain ⟨k, hk, rfl, hb, HA⟩ := hrel
    by_cases hlt : k < zs.length
    · obtain ⟨b, off, rfl, hbs, hc0, hc1⟩ := (h.below hb).at k hlt
      have hsz := hb.size
      have HP : (k = 0 ∧ prevK zs k = 0) ∨ ∃ m, k = m + 1 ∧ m < zs.length ∧ wr.cell? ⟨b, off + m * 2, none⟩ = some (.int .i64 (prevK zs k)) := by
        cases k with
        | zero => exact Or.inl ⟨rfl, rfl⟩
        | succ m =>
          obtain ⟨b', off', e, _, hd0, _⟩ := (h.below hb).at m (by omega)
          simp only [Option.some.injEq, Addr.mk.injEq, and_true] at e
          obtain ⟨rfl, rfl⟩ := e
          exact Or.inr ⟨m, rfl, by omega, by rw [hd0]; simp [prevK]⟩
      rcases itF_ways zs k with ⟨h1, hF⟩ | ⟨h1, h2, hF⟩ | ⟨h1, h2, h3, hF⟩ | ⟨h1, h2, h3, hF⟩
      case inr.inr.inr =>
        have HB : Hid (∀ j, j < k + 1 → itF zs j = 0) := by
          intro j hj
          by_cases hjk : j = k
          · subst hjk; exact hF
          · exact HA.out j (by omega)
        clear HA hF
        generalize prevK zs k = p at h3 HP
        generalize zs.getD k itemNo = z at hc0 hc1 h1 h2 h3
        obtain ⟨z0, z1⟩ := z
        dsimp only at hc0 hc1 h1 h2 h3
        rcases HP with ⟨rfl, rfl⟩ | ⟨m, rfl, hm, hcp⟩
        · simp only [Nat.zero_mul, Nat.add_zero] at hc0 hc1
          have k0 := lat_cell hc0
          have hW : Below wr.heap.size wr wr.drew := (Below.refl _ _).drew
          have hne : Nonempty (Lat wr) := ⟨⟨wr, Below.refl _ _⟩⟩
          go_wp2_with (go_at_call 86; refine (l1InW_any _ _ _ _).mono ?_; rintro e w' ⟨rfl, hw⟩; replace hw := hw.symm; subst hw)
          refine text_begin (S := fun w' => ∃ u : Lat wr, w' = u.val) (by kernel_rfl) ?_
          refine seg_range [(0, 16)] 0 (by kernel_rfl) (by kernel_rfl) (by kernel_rfl) (by kernel_rfl) (by kernel_rfl) ⟨⟨_, hW⟩, rfl⟩ ?_
          simp only [pickR, List.toList_toArray, List.flatMap_cons, List.flatMap_nil, List.drop_succ_cons, List.drop_zero, List.take_succ_cons, List.take_zero, List.cons_append, List.nil_append, List.append_nil]
          repeat go_big_quiet_step (fail)
          refine wpQuiet_nil ?_
          refine text_end (by kernel_rfl) ?_
          replace hb := hb.trans (hW.mono hb.size)
          clear k0 hW hne
          go_wp2
          go_roundw
          case rel => exact ⟨_, by omega, by go_num, hb, HB⟩
          case measure => simp [intOf]; omega
        · have k0 := lat_cell hc0
          have kp := lat_cell hcp
          have hW : Below wr.heap.size wr wr.drew := (Below.refl _ _).drew
          have hne : Nonempty (Lat wr) := ⟨⟨wr, Below.refl _ _⟩⟩
          go_wp2_with (go_at_call 86; refine (l1InW_any _ _ _ _).mono ?_; rintro e w' ⟨rfl, hw⟩; replace hw := hw.symm; subst hw)
          refine text_begin (S := fun w' => ∃ u : Lat wr, w' = u.val) (by kernel_rfl) ?_
          refine seg_range [(0, 16)] 0 (by kernel_rfl) (by kernel_rfl) (by kernel_rfl) (by kernel_rfl) (by kernel_rfl) ⟨⟨_, hW⟩, rfl⟩ ?_
          simp only [pickR, List.toList_toArray, List.flatMap_cons, List.flatMap_nil, List.drop_succ_cons, List.drop_zero, List.take_succ_cons, List.take_zero, List.cons_append, List.nil_append, List.append_nil]
          repeat go_big_quiet_step (fail)
          refine wpQuiet_nil ?_
          refine text_end (by kernel_rfl) ?_
          replace hb := hb.trans (hW.mono hb.size)
          clear k0 kp hW hne
          go_wp2
          go_roundw
          case rel => exact ⟨_, by omega, by go_num, hb, HB⟩
          case measure => simp [intOf]; omega
      case inr.inr.inl =>
        have E : Hid (firstNZ (itF zs) zs.length = _) := firstNZ_first (itF zs) k HA.out (by rw [hF]; decide) zs.length hlt
        rw [hF] at E
        clear HA hF
        generalize prevK zs k = p at h3 HP
        generalize zs.getD k itemNo = z at hc0 hc1 h1 h2 h3
        obtain ⟨z0, z1⟩ := z
        dsimp only at hc0 hc1 h1 h2 h3
        have hpos : 0 < z0 := by
          have := h1
          simp [inW] at this
          omega
        rcases HP with ⟨rfl, rfl⟩ | ⟨m, rfl, hm, hcp⟩
        · exact absurd h3 (by omega)
        · have k0 := lat_cell hc0
          have kp := lat_cell hcp
          have hW : Below wr.heap.size wr wr.drew := (Below.refl _ _).drew
          have hne : Nonempty (Lat wr) := ⟨⟨wr, Below.refl _ _⟩⟩
          go_wp2_with (go_at_call 86; refine (l1InW_any _ _ _ _).mono ?_; rintro e w' ⟨rfl, hw⟩; replace hw := hw.symm; subst hw)
          refine text_begin (S := fun w' => ∃ u : Lat wr, w' = u.val) (by kernel_rfl) ?_
          refine seg_range [(0, 16)] 0 (by kernel_rfl) (by kernel_rfl) (by kernel_rfl) (by kernel_rfl) (by kernel_rfl) ⟨⟨_, hW⟩, rfl⟩ ?_
          simp only [pickR, List.toList_toArray, List.flatMap_cons, List.flatMap_nil, List.drop_succ_cons, List.drop_zero, List.take_succ_cons, List.take_zero, List.cons_append, List.nil_append, List.append_nil]
          repeat go_big_quiet_step (fail)
          refine wpQuiet_nil ?_
          refine text_end (by kernel_rfl) ?_
          replace hb := hb.trans (hW.mono hb.size)
          clear k0 kp hW hne
          go_wp2
          go_ret
          rw [E.out]
          exact ⟨rfl, hb⟩
      all_goals
        have E : Hid (firstNZ (itF zs) zs.length = _) := firstNZ_first (itF zs) k HA.out (by rw [hF]; decide) zs.length hlt
        rw [hF] at E
        clear HA hF HP
        generalize zs.getD k itemNo = z at *
        obtain ⟨z0, z1⟩ := z
        dsimp only at *
        go_wp2_with (go_at_call 86; refine (l1InW_any _ _ _ _).mono ?_; rintro e w' ⟨rfl, hw⟩; replace hw := hw.symm; subst hw)
        go_ret
        rw [E.out]
        exact ⟨rfl, hb⟩
    · have hkl : k = zs.length := by omega
      subst hkl
      have E : Hid (firstNZ (itF zs) zs.length = 0) := firstNZ_none _ _ HA.out
      clear HA
      go_wp2
      go_ret
      rw [E.out]
      exact ⟨rfl, hb⟩

end Go.Proofs.Ytjaoggkpnjkkpaa

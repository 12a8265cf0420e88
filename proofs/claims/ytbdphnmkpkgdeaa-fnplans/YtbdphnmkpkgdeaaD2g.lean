/- TxnFault: the program's function and its model answer alike, by one plain function. No condition. -/
import Derived.Test.YtbdphnmkpkgdeaaD2f
namespace Go.Proofs.Ytbdphnmkpkgdeaa
open Go.RowKit
set_option linter.unusedVariables false
set_option linter.unusedSimpArgs false

/-- The ways through a transaction's first tests. -/
theorem txnF_ways (i s q : Int) (zs : List ActD) :
    (inW i 1 200 = false ∧ txnF i s q zs = 3) ∨ (inW i 1 200 = true ∧ inW s 1 9 = false ∧ txnF i s q zs = 3) ∨ (inW i 1 200 = true ∧ inW s 1 9 = true ∧ inW q 1 99 = false ∧ txnF i s q zs = 3) ∨
    (inW i 1 200 = true ∧ inW s 1 9 = true ∧ inW q 1 99 = true ∧ ((zs.length < 1 ∧ txnF i s q zs = 2) ∨ (4 < zs.length ∧ txnF i s q zs = 2) ∨ (¬ zs.length < 1 ∧ ¬ 4 < zs.length ∧ txnF i s q zs = actsF zs))) := by
  unfold txnF
  cases h1 : inW i 1 200 <;> cases h2 : inW s 1 9 <;> cases h3 : inW q 1 99 <;> simp only [Bool.false_eq_true, Bool.true_eq_false, reduceCtorEq, if_true, if_false, false_or, or_false, true_or, or_true, false_and, true_and, and_true, and_false]
  by_cases h4 : zs.length < 1 <;> by_cases h5 : 4 < zs.length <;> simp only [h4, h5, if_true, if_false, or_true, true_or, or_false, false_or, not_true_eq_false, not_false_eq_true, false_and, true_and, and_self]

set_option maxHeartbeats 400000 in
theorem txnFault_any (i s q : Int) (a : Option Addr) (cap : Nat) (zs : List ActD) (w : World) (h : ActRow w a zs) (hl : zs.length ≤ 1048576) :
    Calls Try.prog 80 #[.agg #[.int .i64 i, .int .i64 s, .int .i64 q, .slice a zs.length cap]] w fun e w' => e = .returned (.int .i64 (txnF i s q zs)) ∧ Below w.heap.size w w' := by
  rcases txnF_ways i s q zs with ⟨h1, h⟩ | ⟨h1, h2, h⟩ | ⟨h1, h2, h3, h⟩ | ⟨h1, h2, h3, ⟨h4, h⟩ | ⟨h4, h⟩ | ⟨h4, h5, hf⟩⟩
  all_goals try
    (rw [h]; clear h
     go_enter Try.func80, Try.ntmps80
     go_wp2_with (go_at_call 84; refine (isWithin_any _ _ _ _).mono ?_; rintro e w' ⟨rfl, rfl⟩)
     go_ret
     exact ⟨rfl, by go_grown⟩)
  rw [hf]
  clear hf
  go_enter Try.func80, Try.ntmps80
  go_wp2_with (go_at_call 84; refine (isWithin_any _ _ _ _).mono ?_; rintro e w' ⟨rfl, rfl⟩)
  go_loopw [35] (fun j wr => ∃ k : Nat, k ≤ zs.length ∧ j = .int .i64 k ∧ Below w.heap.size w wr ∧ Hid (∀ j, j < k → actF (zs.getD j actNo) = 0)) (fun j _ => zs.length - (intOf j).toNat)
  case atStart => exact ⟨0, Nat.zero_le _, rfl, by go_grown, fun j hj => absurd hj (Nat.not_lt_zero _)⟩
  case round =>
    obtain ⟨k, hk, rfl, hb, HA⟩ := hrel
    by_cases hlt : k < zs.length
    · obtain ⟨b, off, rfl, hbs, hc0, hc1, hc2⟩ := (h.below hb).at k hlt
      have hsz := hb.size
      by_cases hF : actF (zs.getD k actNo) = 0
      · have HB : Hid (∀ j, j < k + 1 → actF (zs.getD j actNo) = 0) := by
          intro j hj
          by_cases hjk : j = k
          · subst hjk; exact hF
          · exact HA.out j (by omega)
        have hcall := actFault_any (zs.getD k actNo).kind (zs.getD k actNo).key (zs.getD k actNo).val
        rw [show actF ⟨(zs.getD k actNo).kind, (zs.getD k actNo).key, (zs.getD k actNo).val⟩ = 0 from hF] at hcall
        clear HA hF
        generalize zs.getD k actNo = z at hc0 hc1 hc2 hcall
        go_wp2_with (go_at_call 85; refine (hcall _).mono ?_; rintro e w' ⟨rfl, hb2⟩)
        go_roundw
        case rel => exact ⟨k + 1, by omega, by go_num, below_from (by go_grown) hb2, HB⟩
        case measure => simp [intOf]; omega
      · have E : Hid (actsF zs = actF (zs.getD k actNo)) := actsF_first zs k HA.out hlt hF
        have hcall := actFault_any (zs.getD k actNo).kind (zs.getD k actNo).key (zs.getD k actNo).val
        have hne : (actF (zs.getD k actNo) != 0) = true := by simpa using hF
        change ∀ w, Calls _ _ _ w fun e w' => e = .returned (.int .i64 (actF (zs.getD k actNo))) ∧ _ at hcall
        clear HA hF
        generalize actF (zs.getD k actNo) = r at hcall E hne
        generalize zs.getD k actNo = z at hc0 hc1 hc2 hcall
        go_wp2_with (go_at_call 85; refine (hcall _).mono ?_; rintro e w' ⟨rfl, hb2⟩)
        go_ret
        rw [E.out]
        exact ⟨rfl, below_from (by go_grown) hb2⟩
    · have hkl : k = zs.length := by omega
      subst hkl
      have E : Hid (actsF zs = 0) := actsF_none zs HA.out
      clear HA
      go_wp2
      go_ret
      rw [E.out]
      exact ⟨rfl, hb⟩

/-- A transaction in a box of four cells. -/
structure Box4 (w : World) (b o : Nat) (x0 x1 x2 x3 : Value) : Prop where
  c0 : w.cell? ⟨b, o, none⟩ = some x0
  c1 : w.cell? ⟨b, o + 1, none⟩ = some x1
  c2 : w.cell? ⟨b, o + 2, none⟩ = some x2
  c3 : w.cell? ⟨b, o + 3, none⟩ = some x3

theorem Box4.below {w w' : World} {b o : Nat} {x0 x1 x2 x3 : Value} (h : Box4 w b o x0 x1 x2 x3) (hb : Below w.heap.size w w') : Box4 w' b o x0 x1 x2 x3 := by
  have hlt : b < w.heap.size := World.block_lt_of_cell? w ⟨b, o, none⟩ h.c0
  exact ⟨by rw [hb.cell (p := ⟨b, o, none⟩) hlt]; exact h.c0, by rw [hb.cell (p := ⟨b, o + 1, none⟩) hlt]; exact h.c1, by rw [hb.cell (p := ⟨b, o + 2, none⟩) hlt]; exact h.c2, by rw [hb.cell (p := ⟨b, o + 3, none⟩) hlt]; exact h.c3⟩

set_option maxHeartbeats 400000 in
theorem l2Fault_any (b o : Nat) (i s q : Int) (a : Option Addr) (cap : Nat) (zs : List ActD) (w : World) (hB : Box4 w b o (.int .i64 i) (.int .i64 s) (.int .i64 q) (.slice a zs.length cap)) (h : ActRow w a zs) (hl : zs.length ≤ 1048576) :
    Calls Try.prog 74 #[.pointer (some ⟨b, o, none⟩)] w fun e w' => e = .returned (.int .i64 (txnF i s q zs)) ∧ w' = w := by
  obtain ⟨b0, b1, b2, b3⟩ := hB
  rcases txnF_ways i s q zs with ⟨h1, h⟩ | ⟨h1, h2, h⟩ | ⟨h1, h2, h3, h⟩ | ⟨h1, h2, h3, ⟨h4, h⟩ | ⟨h4, h⟩ | ⟨h4, h5, hf⟩⟩
  all_goals try
    (rw [h]; clear h
     go_enter Try.func74, Try.ntmps74
     go_wp2_with (go_at_call 82; refine (l1InW_any _ _ _ _).mono ?_; rintro e w' ⟨rfl, rfl⟩)
     go_ret
     exact ⟨rfl, rfl⟩)
  rw [hf]
  clear hf
  go_enter Try.func74, Try.ntmps74
  go_wp2_with (go_at_call 82; refine (l1InW_any _ _ _ _).mono ?_; rintro e w' ⟨rfl, rfl⟩)
  clear b0 b1 b2
  go_loop [3] (fun j => ∃ k : Nat, k ≤ zs.length ∧ j = .int .i64 k ∧ Hid (∀ j, j < k → actF (zs.getD j actNo) = 0)) (fun j => zs.length - (intOf j).toNat)
  case atStart => exact ⟨0, Nat.zero_le _, rfl, fun j hj => absurd hj (Nat.not_lt_zero _)⟩
  case round =>
    obtain ⟨k, hk, rfl, HA⟩ := hrel
    by_cases hlt : k < zs.length
    · obtain ⟨b', off, rfl, hbs, hc0, hc1, hc2⟩ := h.at k hlt
      by_cases hF : actF (zs.getD k actNo) = 0
      · have HB : Hid (∀ j, j < k + 1 → actF (zs.getD j actNo) = 0) := by
          intro j hj
          by_cases hjk : j = k
          · subst hjk; exact hF
          · exact HA.out j (by omega)
        have hcall := l2Act_any b' (off + k * 3) (zs.getD k actNo).kind (zs.getD k actNo).key (zs.getD k actNo).val _ hc0 hc1 hc2
        rw [show actF ⟨(zs.getD k actNo).kind, (zs.getD k actNo).key, (zs.getD k actNo).val⟩ = 0 from hF] at hcall
        clear HA hF hc0 hc1 hc2
        go_wp2_with (go_at_call 83; refine hcall.mono ?_; rintro e w' ⟨rfl, rfl⟩)
        go_round
        case rel => exact ⟨k + 1, by omega, by go_num, HB⟩
        case measure => simp [intOf]; omega
      · have E : Hid (actsF zs = actF (zs.getD k actNo)) := actsF_first zs k HA.out hlt hF
        have hcall := l2Act_any b' (off + k * 3) (zs.getD k actNo).kind (zs.getD k actNo).key (zs.getD k actNo).val _ hc0 hc1 hc2
        have hne : (actF (zs.getD k actNo) != 0) = true := by simpa using hF
        change Calls _ _ _ _ fun e w' => e = .returned (.int .i64 (actF (zs.getD k actNo))) ∧ _ at hcall
        clear HA hF hc0 hc1 hc2
        generalize actF (zs.getD k actNo) = r at hcall E hne
        go_wp2_with (go_at_call 83; refine hcall.mono ?_; rintro e w' ⟨rfl, rfl⟩)
        go_ret
        rw [E.out]
        exact ⟨rfl, rfl⟩
    · have hkl : k = zs.length := by omega
      subst hkl
      have E : Hid (actsF zs = 0) := actsF_none zs HA.out
      clear HA
      go_wp2
      go_ret
      rw [E.out]
      exact ⟨rfl, rfl⟩

theorem box4_new (w : World) (x0 x1 x2 x3 : Value) (t : TypeId) : Box4 (w.alloc (.cells #[x0, x1, x2, x3] t)) w.heap.size 0 x0 x1 x2 x3 := ⟨by simp, by simp, by simp, by simp⟩

theorem Box4.zero {w : World} {b : Nat} {x0 x1 x2 x3 : Value} (h : Box4 w b 0 x0 x1 x2 x3) : w.cell? ⟨b, 0, none⟩ = some x0 ∧ w.cell? ⟨b, 1, none⟩ = some x1 ∧ w.cell? ⟨b, 2, none⟩ = some x2 ∧ w.cell? ⟨b, 3, none⟩ = some x3 :=
  ⟨h.c0, by simpa using h.c1, by simpa using h.c2, by simpa using h.c3⟩

theorem Box4.lat {w : World} {b : Nat} {x0 x1 x2 x3 : Value} (h : Box4 w b 0 x0 x1 x2 x3) : (∀ u : Lat w, u.val.cell? ⟨b, 0, none⟩ = some x0) ∧ (∀ u : Lat w, u.val.cell? ⟨b, 1, none⟩ = some x1) ∧ (∀ u : Lat w, u.val.cell? ⟨b, 2, none⟩ = some x2) ∧ (∀ u : Lat w, u.val.cell? ⟨b, 3, none⟩ = some x3) :=
  ⟨lat_cell h.zero.1, lat_cell h.zero.2.1, lat_cell h.zero.2.2.1, lat_cell h.zero.2.2.2⟩

end Go.Proofs.Ytbdphnmkpkgdeaa

/- ChoiceFor of the model. -/
import Derived.Test.YtonkbpnchcgmmaaDoorS5h
namespace Go.Proofs.YtonkbpnchcgmmaaDoor
open Go.RowKit
set_option linter.unusedVariables false
set_option linter.unusedSimpArgs false

set_option maxHeartbeats 1000000 in
theorem l5Both_any (a : Option Addr) (cap : Nat) (zs : List Int) (w : World) (h : Row .i64 w a zs) (hl : zs.length = 3) :
    Calls Tryd.prog 39 #[.slice a 3 cap] w fun e w' => e = .returned (.bool (both zs)) ∧ Below w.heap.size w w' := by
  have hc0 := l5Count_any a cap zs 7 0 w h hl (by decide)
  have hc1 := fun w h => l5Count_any a cap zs 7 1 w h hl (by decide)
  unfold both
  generalize cnt 7 zs 0 = z at *
  generalize cnt 7 zs 1 = o at *
  by_cases hz : 0 < z
  · have hd : decide (0 < z) = true := decide_eq_true hz
    rw [hd]
    go_enter Tryd.func39, Tryd.ntmps39
    go_wp2_with fail
    refine hc0.mono ?_
    rintro e w1 ⟨rfl, b1⟩
    have h1 := hc1 w1 (h.below b1)
    clear hc0 hc1
    go_wp2_with fail
    refine h1.mono ?_
    rintro e w2 ⟨rfl, b2⟩
    replace b2 := b1.trans (b2.mono b1.size)
    clear h1
    go_wp2
    go_ret
    exact ⟨by simp, b2⟩
  · have hd : decide (0 < z) = false := decide_eq_false hz
    rw [hd]
    clear hc1
    go_enter Tryd.func39, Tryd.ntmps39
    go_wp2_with fail
    refine hc0.mono ?_
    rintro e w1 ⟨rfl, b1⟩
    clear hc0
    go_wp2
    go_ret
    exact ⟨by simp, b1⟩

set_option maxHeartbeats 1000000 in
theorem l5Choice_any (a : Option Addr) (cap : Nat) (zs : List Int) (m c : Int) (w : World) (h : Row .i64 w a zs) (hl : zs.length = 3) (hm : inB m 0 7 = true) :
    Calls Tryd.prog 40 #[.slice a 3 cap, .int .i64 m, .int .i64 c] w fun e w' => e = .returned (.agg #[.int .i64 0, .bool (chD (cnt m zs 0) (cnt m zs 1)), .bool (chK (cnt m zs 0) (cnt m zs 1)), .int .i64 (chV (cnt m zs 0) (cnt m zs 1) c)]) ∧ Below w.heap.size w w' := by
  have hB : Below w.heap.size w (w.alloc (.cells #[.int .i64 0, .bool false, .bool false, .int .i64 0] 33)) := by go_grown
  have Bx := Blk.new w 33 #[.int .i64 0, .bool false, .bool false, .int .i64 0]
  have hi0 := cnt_in m zs 0
  have hi1 := cnt_in m zs 1
  have hc0 := l5Count_any a cap zs m 0 _ (h.below hB) hl hm
  have hc1 := fun w h => l5Count_any a cap zs m 1 w h hl hm
  generalize cnt m zs 0 = z at *
  generalize cnt m zs 1 = o at *
  obtain ⟨D, hD⟩ : ∃ D, chD z o = D := ⟨_, rfl⟩
  obtain ⟨K, hK⟩ : ∃ K, chK z o = K := ⟨_, rfl⟩
  obtain ⟨V, hV⟩ : ∃ V, chV z o c = V := ⟨_, rfl⟩
  rw [hD, hK, hV]
  unfold chD at hD
  unfold chK at hK
  unfold chV at hV
  by_cases hz : 0 < z
  · have HE : Hid (D = decide (2 ≤ z) ∧ K = false ∧ V = 0) := by
      rw [if_pos hz] at hD hV
      rw [decide_eq_true hz] at hK
      exact ⟨hD.symm, hK.symm, hV.symm⟩
    clear hD hK hV hc1
    go_enter Tryd.func40, Tryd.ntmps40
    go_wp2
    refine wp_loop_rounds 1 ?_
    rw [rounds_succ]
    go_wp2_with fail
    generalize w.alloc (.cells #[.int .i64 0, .bool false, .bool false, .int .i64 0] 33) = W at *
    refine hc0.mono ?_
    rintro e w1 ⟨rfl, hb⟩
    replace Bx := Bx.below hb
    replace hB := hB.trans (hb.mono hB.size)
    have p0 := Bx.cell 0 (.int .i64 0) rfl
    have p1 := Bx.cell 1 (.bool false) rfl
    have p2 := Bx.cell 2 (.bool false) rfl
    have p3 := Bx.cell 3 (.int .i64 0) rfl
    have f0 := Bx.frozen 0
    have f1 := Bx.frozen 1
    have f2 := Bx.frozen 2
    have f3 := Bx.frozen 3
    clear hb Bx hc0
    go_wp2
    exact bodyPost_ret (v := .agg #[.int .i64 0, .bool (decide (2 ≤ z)), .bool false, .int .i64 0]) (by simp [results, Tryd.results40, go_sem, p0, p1, p2, p3]) rfl ⟨by rw [HE.out.1, HE.out.2.1, HE.out.2.2], ((((hB.setCell (p := ⟨w.heap.size, 0, none⟩) (Nat.le_refl _) _).setCell (p := ⟨w.heap.size, 1, none⟩) (Nat.le_refl _) _).setCell (p := ⟨w.heap.size, 2, none⟩) (Nat.le_refl _) _).setCell (p := ⟨w.heap.size, 3, none⟩) (Nat.le_refl _) _)⟩
  · have HE : Hid (D = decide (2 ≤ o) ∧ K = !decide (0 < o) ∧ V = if 0 < o then 1 else c) := by
      rw [if_neg hz] at hD hV
      rw [decide_eq_false hz] at hK
      exact ⟨hD.symm, by simpa using hK.symm, hV.symm⟩
    clear hD hK hV
    go_enter Tryd.func40, Tryd.ntmps40
    go_wp2
    refine wp_loop_rounds 3 ?_
    rw [rounds_succ]
    go_wp2_with fail
    generalize w.alloc (.cells #[.int .i64 0, .bool false, .bool false, .int .i64 0] 33) = W at *
    refine hc0.mono ?_
    rintro e w1 ⟨rfl, hb⟩
    replace Bx := Bx.below hb
    replace hB := hB.trans (hb.mono hB.size)
    have h1 := hc1 w1 (h.below hB)
    clear hb hc0 hc1
    go_wp2_with fail
    rw [rounds_succ]
    go_wp2_with fail
    refine h1.mono ?_
    rintro e w2 ⟨rfl, hb⟩
    replace Bx := Bx.below hb
    replace hB := hB.trans (hb.mono hB.size)
    have p0 := Bx.cell 0 (.int .i64 0) rfl
    have p1 := Bx.cell 1 (.bool false) rfl
    have p2 := Bx.cell 2 (.bool false) rfl
    have p3 := Bx.cell 3 (.int .i64 0) rfl
    have f0 := Bx.frozen 0
    have f1 := Bx.frozen 1
    have f2 := Bx.frozen 2
    have f3 := Bx.frozen 3
    clear hb Bx h1
    by_cases ho : 0 < o
    · have HE2 : Hid (D = decide (2 ≤ o) ∧ K = false ∧ V = 1) := by
        obtain ⟨x, y, z⟩ := HE.out
        rw [if_pos ho] at z
        rw [decide_eq_true ho] at y
        exact ⟨x, y, z⟩
      clear HE
      go_wp2
      exact bodyPost_ret (v := .agg #[.int .i64 0, .bool (decide (2 ≤ o)), .bool false, .int .i64 1]) (by simp [results, Tryd.results40, go_sem, p0, p1, p2, p3]) rfl ⟨by rw [HE2.out.1, HE2.out.2.1, HE2.out.2.2], ((((hB.setCell (p := ⟨w.heap.size, 0, none⟩) (Nat.le_refl _) _).setCell (p := ⟨w.heap.size, 1, none⟩) (Nat.le_refl _) _).setCell (p := ⟨w.heap.size, 2, none⟩) (Nat.le_refl _) _).setCell (p := ⟨w.heap.size, 3, none⟩) (Nat.le_refl _) _)⟩
    · have HE2 : Hid (D = false ∧ K = true ∧ V = c) := by
        obtain ⟨x, y, z⟩ := HE.out
        rw [if_neg ho] at z
        rw [decide_eq_false ho] at y
        rw [decide_eq_false (by omega)] at x
        exact ⟨x, y, z⟩
      clear HE
      go_wp2
      rw [rounds_succ]
      go_wp2
      exact bodyPost_ret (v := .agg #[.int .i64 0, .bool false, .bool true, .int .i64 c]) (by simp [results, Tryd.results40, go_sem, p0, p1, p2, p3]) rfl ⟨by rw [HE2.out.1, HE2.out.2.1, HE2.out.2.2], ((((hB.setCell (p := ⟨w.heap.size, 0, none⟩) (Nat.le_refl _) _).setCell (p := ⟨w.heap.size, 1, none⟩) (Nat.le_refl _) _).setCell (p := ⟨w.heap.size, 2, none⟩) (Nat.le_refl _) _).setCell (p := ⟨w.heap.size, 3, none⟩) (Nat.le_refl _) _)⟩

set_option maxHeartbeats 1000000 in
theorem specChoice_any (a : Option Addr) (cap : Nat) (zs : List Int) (m c : Int) (w : World) (h : Row .i64 w a zs) (hm : zs.length ≤ 9223372036854775807) :
    Calls Tryd.prog 16 #[.slice a zs.length cap, .int .i64 m, .int .i64 c] w fun e w' => e = .returned (.agg #[.int .i64 (chC zs m c), .bool (cfD zs m c), .bool (cfK zs m c), .int .i64 (cfV zs m c)]) ∧ Below w.heap.size w w' := by
  obtain ⟨C, hC⟩ : ∃ C, chC zs m c = C := ⟨_, rfl⟩
  obtain ⟨D, hD⟩ : ∃ D, cfD zs m c = D := ⟨_, rfl⟩
  obtain ⟨K, hK⟩ : ∃ K, cfK zs m c = K := ⟨_, rfl⟩
  obtain ⟨V, hV⟩ : ∃ V, cfV zs m c = V := ⟨_, rfl⟩
  rw [hC, hD, hK, hV]
  have HN : Hid (∀ x, chC zs m c = x → x ≠ 0 → C = x ∧ D = false ∧ K = false ∧ V = 0) := by
    intro x hx hn
    refine ⟨hC.symm.trans hx, ?_, ?_, ?_⟩
    · rw [← hD]; simp [cfD, hx, hn]
    · rw [← hK]; simp [cfK, hx, hn]
    · rw [← hV]; simp [cfV, hx, hn]
  have HY : Hid (chC zs m c = 0 → C = 0 ∧ D = chD (cnt m zs 0) (cnt m zs 1) ∧ K = chK (cnt m zs 0) (cnt m zs 1) ∧ V = chV (cnt m zs 0) (cnt m zs 1) c) := by
    intro hx
    refine ⟨hC.symm.trans hx, ?_, ?_, ?_⟩
    · rw [← hD]; simp [cfD, hx]
    · rw [← hK]; simp [cfK, hx]
    · rw [← hV]; simp [cfV, hx]
  clear hC hD hK hV
  have hB : Below w.heap.size w (w.alloc (.cells #[.int .i64 0, .bool false, .bool false, .int .i64 0] 33)) := by go_grown
  have Bx := Blk.new w 33 #[.int .i64 0, .bool false, .bool false, .int .i64 0]
  have hv := l5Votes_any a cap zs 2 _ (h.below hB) hm
  go_enter Tryd.func16, Tryd.ntmps16
  go_wp2_with fail
  generalize w.alloc (.cells #[.int .i64 0, .bool false, .bool false, .int .i64 0] 33) = W at *
  refine hv.mono ?_
  rintro e w1 ⟨rfl, hb⟩
  replace Bx := Bx.below hb
  replace hB := hB.trans (hb.mono hB.size)
  clear hv hb
  by_cases h0 : vf zs 2 = 0
  · have hl := vf_len h0
    rw [h0, hl]
    by_cases hc01 : inB c 0 1 = true
    · have hbo := l5Both_any a cap zs w1 (h.below hB) hl
      go_wp2_with fail
      refine (l1In_any _ _ _ _).mono ?_
      rintro e w' ⟨rfl, hw⟩
      replace hw := hw.symm
      subst hw
      rw [hc01]
      go_wp2_with fail
      refine hbo.mono ?_
      rintro e w2 ⟨rfl, hb⟩
      replace Bx := Bx.below hb
      replace hB := hB.trans (hb.mono hB.size)
      clear hb hbo
      by_cases hb2 : both zs = true
      · have HE := HN.out 1 (by simp [chC, h0, hc01, hb2]) (by omega)
        have HE : Hid _ := HE
        have p0 := Bx.cell 0 (.int .i64 0) rfl
        have p1 := Bx.cell 1 (.bool false) rfl
        have p2 := Bx.cell 2 (.bool false) rfl
        have p3 := Bx.cell 3 (.int .i64 0) rfl
        have f0 := Bx.frozen 0
        have f1 := Bx.frozen 1
        have f2 := Bx.frozen 2
        have f3 := Bx.frozen 3
        rw [hb2]
        clear HN HY Bx h0 hl
        go_wp2
        exact bodyPost_ret (v := .agg #[.int .i64 1, .bool false, .bool false, .int .i64 0]) (by simp [results, Tryd.results16, go_sem, p0, p1, p2, p3]) rfl ⟨by rw [HE.out.1, HE.out.2.1, HE.out.2.2.1, HE.out.2.2.2], ((((hB.setCell (p := ⟨w.heap.size, 0, none⟩) (Nat.le_refl _) _).setCell (p := ⟨w.heap.size, 1, none⟩) (Nat.le_refl _) _).setCell (p := ⟨w.heap.size, 2, none⟩) (Nat.le_refl _) _).setCell (p := ⟨w.heap.size, 3, none⟩) (Nat.le_refl _) _)⟩
      · have hb2' : both zs = false := by simpa using hb2
        have hh := l5Heard_any a cap zs m w2 (h.below hB) hl
        rw [hb2']
        go_wp2_with fail
        refine hh.mono ?_
        rintro e w3 ⟨rfl, hb⟩
        replace Bx := Bx.below hb
        replace hB := hB.trans (hb.mono hB.size)
        clear hb hh
        by_cases h1 : heard zs m = true
        · have HE := HY.out (by simp [chC, h0, hc01, hb2', h1])
          have HE : Hid _ := HE
          have hch := l5Choice_any a cap zs m c w3 (h.below hB) hl (heard_in h1)
          rw [h1]
          generalize chD (cnt m zs 0) (cnt m zs 1) = D1 at *
          generalize chK (cnt m zs 0) (cnt m zs 1) = K1 at *
          generalize chV (cnt m zs 0) (cnt m zs 1) c = V1 at *
          go_wp2_with fail
          refine hch.mono ?_
          rintro e w4 ⟨rfl, hb⟩
          replace Bx := Bx.below hb
          replace hB := hB.trans (hb.mono hB.size)
          have p0 := Bx.cell 0 (.int .i64 0) rfl
          have p1 := Bx.cell 1 (.bool false) rfl
          have p2 := Bx.cell 2 (.bool false) rfl
          have p3 := Bx.cell 3 (.int .i64 0) rfl
          have f0 := Bx.frozen 0
          have f1 := Bx.frozen 1
          have f2 := Bx.frozen 2
          have f3 := Bx.frozen 3
          clear hb hch HN HY Bx h0 hl
          go_wp2
          exact bodyPost_ret (v := .agg #[.int .i64 0, .bool D1, .bool K1, .int .i64 V1]) (by simp [results, Tryd.results16, go_sem, p0, p1, p2, p3]) rfl ⟨by rw [HE.out.1, HE.out.2.1, HE.out.2.2.1, HE.out.2.2.2], ((((hB.setCell (p := ⟨w.heap.size, 0, none⟩) (Nat.le_refl _) _).setCell (p := ⟨w.heap.size, 1, none⟩) (Nat.le_refl _) _).setCell (p := ⟨w.heap.size, 2, none⟩) (Nat.le_refl _) _).setCell (p := ⟨w.heap.size, 3, none⟩) (Nat.le_refl _) _)⟩
        · have h1' : heard zs m = false := by simpa using h1
          have HE := HN.out 10 (by simp [chC, h0, hc01, hb2', h1']) (by omega)
          have HE : Hid _ := HE
          rw [h1']
          have p0 := Bx.cell 0 (.int .i64 0) rfl
          have p1 := Bx.cell 1 (.bool false) rfl
          have p2 := Bx.cell 2 (.bool false) rfl
          have p3 := Bx.cell 3 (.int .i64 0) rfl
          have f0 := Bx.frozen 0
          have f1 := Bx.frozen 1
          have f2 := Bx.frozen 2
          have f3 := Bx.frozen 3
          clear HN HY Bx h0 hl
          go_wp2
          exact bodyPost_ret (v := .agg #[.int .i64 10, .bool false, .bool false, .int .i64 0]) (by simp [results, Tryd.results16, go_sem, p0, p1, p2, p3]) rfl ⟨by rw [HE.out.1, HE.out.2.1, HE.out.2.2.1, HE.out.2.2.2], ((((hB.setCell (p := ⟨w.heap.size, 0, none⟩) (Nat.le_refl _) _).setCell (p := ⟨w.heap.size, 1, none⟩) (Nat.le_refl _) _).setCell (p := ⟨w.heap.size, 2, none⟩) (Nat.le_refl _) _).setCell (p := ⟨w.heap.size, 3, none⟩) (Nat.le_refl _) _)⟩
    · have hc01' : inB c 0 1 = false := by simpa using hc01
      have HE := HN.out 3 (by simp [chC, h0, hc01']) (by omega)
      have HE : Hid _ := HE
      have p0 := Bx.cell 0 (.int .i64 0) rfl
      have p1 := Bx.cell 1 (.bool false) rfl
      have p2 := Bx.cell 2 (.bool false) rfl
      have p3 := Bx.cell 3 (.int .i64 0) rfl
      have f0 := Bx.frozen 0
      have f1 := Bx.frozen 1
      have f2 := Bx.frozen 2
      have f3 := Bx.frozen 3
      clear HN HY Bx h0 hl
      go_wp2_with (go_at_call 38; refine (l1In_any _ _ _ _).mono ?_; rintro e w' ⟨rfl, hw⟩; replace hw := hw.symm; subst hw)
      exact bodyPost_ret (v := .agg #[.int .i64 3, .bool false, .bool false, .int .i64 0]) (by simp [results, Tryd.results16, go_sem, p0, p1, p2, p3]) rfl ⟨by rw [HE.out.1, HE.out.2.1, HE.out.2.2.1, HE.out.2.2.2], ((((hB.setCell (p := ⟨w.heap.size, 0, none⟩) (Nat.le_refl _) _).setCell (p := ⟨w.heap.size, 1, none⟩) (Nat.le_refl _) _).setCell (p := ⟨w.heap.size, 2, none⟩) (Nat.le_refl _) _).setCell (p := ⟨w.heap.size, 3, none⟩) (Nat.le_refl _) _)⟩
  · have HE := HN.out (vf zs 2) (by simp [chC, h0]) h0
    have HE : Hid _ := HE
    have h0' : (vf zs 2 != 0) = true := by simpa using h0
    have p0 := Bx.cell 0 (.int .i64 0) rfl
    have p1 := Bx.cell 1 (.bool false) rfl
    have p2 := Bx.cell 2 (.bool false) rfl
    have p3 := Bx.cell 3 (.int .i64 0) rfl
    have f0 := Bx.frozen 0
    have f1 := Bx.frozen 1
    have f2 := Bx.frozen 2
    have f3 := Bx.frozen 3
    clear HN HY Bx h0
    generalize vf zs 2 = x at *
    go_wp2
    exact bodyPost_ret (v := .agg #[.int .i64 x, .bool false, .bool false, .int .i64 0]) (by simp [results, Tryd.results16, go_sem, p0, p1, p2, p3]) rfl ⟨by rw [HE.out.1, HE.out.2.1, HE.out.2.2.1, HE.out.2.2.2], ((((hB.setCell (p := ⟨w.heap.size, 0, none⟩) (Nat.le_refl _) _).setCell (p := ⟨w.heap.size, 1, none⟩) (Nat.le_refl _) _).setCell (p := ⟨w.heap.size, 2, none⟩) (Nat.le_refl _) _).setCell (p := ⟨w.heap.size, 3, none⟩) (Nat.le_refl _) _)⟩

end Go.Proofs.YtonkbpnchcgmmaaDoor

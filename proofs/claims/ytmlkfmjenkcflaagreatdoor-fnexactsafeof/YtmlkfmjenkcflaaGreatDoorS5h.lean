/- ChoiceFor of the program. -/
import Derived.Test.YtmlkfmjenkcflaaGreatDoorGC
namespace Go.Proofs.YtmlkfmjenkcflaaGreatDoor
open Go.RowKit
set_option linter.unusedVariables false
set_option maxRecDepth 100000
set_option linter.unusedSimpArgs false

def both (zs : List Int) : Bool := decide (0 < cnt 7 zs 0) && decide (0 < cnt 7 zs 1)
def chC (zs : List Int) (m c : Int) : Int := if vf zs 2 = 0 then (if inB c 0 1 then (if both zs then 1 else if heard zs m then 0 else 10) else 3) else vf zs 2
def chD (z o : Int) : Bool := if 0 < z then decide (2 ≤ z) else decide (2 ≤ o)
def chK (z o : Int) : Bool := !decide (0 < z) && !decide (0 < o)
def chV (z o c : Int) : Int := if 0 < z then 0 else if 0 < o then 1 else c
def cfD (zs : List Int) (m c : Int) : Bool := if chC zs m c = 0 then chD (cnt m zs 0) (cnt m zs 1) else false
def cfK (zs : List Int) (m c : Int) : Bool := if chC zs m c = 0 then chK (cnt m zs 0) (cnt m zs 1) else false
def cfV (zs : List Int) (m c : Int) : Int := if chC zs m c = 0 then chV (cnt m zs 0) (cnt m zs 1) c else 0

theorem sum3_le (a b c p q r : Bool) : sum3 (a && p) (b && q) (c && r) ≤ sum3 p q r := by
  cases a <;> cases b <;> cases c <;> cases p <;> cases q <;> cases r <;> decide
theorem bit7 : bitB 7 0 = true ∧ bitB 7 1 = true ∧ bitB 7 2 = true := by decide +kernel
theorem cnt_le (m : Int) (zs : List Int) (v : Int) : cnt m zs v ≤ cnt 7 zs v := by
  unfold cnt
  rw [bit7.1, bit7.2.1, bit7.2.2, Bool.true_and, Bool.true_and, Bool.true_and]
  exact sum3_le _ _ _ _ _ _
theorem ch4 : ∀ z ∈ [(0 : Int), 1, 2, 3], ∀ o ∈ [(0 : Int), 1, 2, 3], (decide (0 < z) && decide (0 < o)) = false → rd (pick5 z o) = chD z o ∧ rc (pick5 z o) = chK z o ∧ (rc (pick5 z o) = true → ¬ 0 < z ∧ ¬ 0 < o) ∧ (rc (pick5 z o) = false → (0 < z ∧ rv (pick5 z o) = 0) ∨ (¬ 0 < z ∧ 0 < o ∧ rv (pick5 z o) = 1)) := by decide +kernel
theorem ch_at {zs : List Int} (m : Int) (h : both zs = false) : (decide (0 < cnt m zs 0) && decide (0 < cnt m zs 1)) = false := by
  have h0 := cnt_le m zs 0
  have h1 := cnt_le m zs 1
  unfold both at h
  rw [Bool.and_eq_false_iff, decide_eq_false_iff_not, decide_eq_false_iff_not] at h ⊢
  omega

set_option maxHeartbeats 2000000 in
theorem implChoice_any (a : Option Addr) (cap : Nat) (zs : List Int) (m c : Int) (w : World) (hG : Rul w) (h : Row .i64 w a zs) (hm : zs.length ≤ 9223372036854775807) :
    Calls Tryz.prog 82 #[.slice a zs.length cap, .int .i64 m, .int .i64 c] w fun e w' => e = .returned (.agg #[.int .i64 (chC zs m c), .bool (cfD zs m c), .bool (cfK zs m c), .int .i64 (cfV zs m c)]) ∧ Below w.heap.size w w' := by
  have hB : Below w.heap.size w (w.alloc (.cells #[.int .i64 0, .bool false, .bool false, .int .i64 0] 102)) := by go_grown
  have hv := fun w h => votesFault_any a cap zs 2 w h hm
  rw [vfa2] at hv
  by_cases h0 : vf zs 2 = 0
  · have hl := vf_len h0
    rw [h0] at hv
    rw [hl] at hv ⊢
    by_cases hc01 : inB c 0 1 = true
    · have hc7 := fun w h => countsOf_any a cap zs 7 w h hl (by decide)
      have g0 := fl_gtr (cnt_in 7 zs 0)
      have g1 := fl_gtr (cnt_in 7 zs 1)
      by_cases hb2 : both zs = true
      · have e1 : chC zs m c = 1 := by simp [chC, h0, hc01, hb2]
        have e2 : cfD zs m c = false := by simp [cfD, e1]
        have e3 : cfK zs m c = false := by simp [cfK, e1]
        have e4 : cfV zs m c = 0 := by simp [cfV, e1]
        rw [e1, e2, e3, e4]
        unfold both at hb2
        rw [Bool.and_eq_true] at hb2
        rw [hb2.1] at g0
        rw [hb2.2] at g1
        generalize fl (cnt 7 zs 0) = z7 at *
        generalize fl (cnt 7 zs 1) = o7 at *
        clear e1 e2 e3 e4 h0 hl hb2
        go_enter Tryz.func82, Tryz.ntmps82
        go_wp2_with (first | (go_at_call 58; refine (hv _ (h.below (by go_grown))).mono ?_; rintro e w' ⟨rfl, rfl⟩) | (go_at_call 70; refine (within_any _ _ _ _).mono ?_; rintro e w' ⟨rfl, rfl⟩) | (go_at_call 99; refine (hc7 _ (h.below (by go_grown))).mono ?_; rintro e w' ⟨rfl, rfl⟩))
        exact bodyPost_ret (v := .agg #[.int .i64 1, .bool false, .bool false, .int .i64 0]) (by simp [results, Tryz.results82, go_sem]) rfl ⟨rfl, by go_grown⟩
      · have hb2' : both zs = false := by simpa using hb2
        clear hb2
        have hch := hb2'
        unfold both at hch
        have hh := fun w h => isHeard_any a cap zs m w h hl
        by_cases h1 : heard zs m = true
        · obtain ⟨q1, q2, q3, q4⟩ := ch4 _ (four (cnt_in m zs 0)) _ (four (cnt_in m zs 1)) (ch_at m hb2')
          have e1 : chC zs m c = 0 := by simp [chC, h0, hc01, hb2', h1]
          have e2 : cfD zs m c = rd (pick5 (cnt m zs 0) (cnt m zs 1)) := by simp [cfD, e1, q1]
          have e3 : cfK zs m c = rc (pick5 (cnt m zs 0) (cnt m zs 1)) := by simp [cfK, e1, q2]
          have e4 : cfV zs m c = if rc (pick5 (cnt m zs 0) (cnt m zs 1)) = true then c else rv (pick5 (cnt m zs 0) (cnt m zs 1)) := by
            simp only [cfV, e1, if_true, chV]
            by_cases hk : rc (pick5 (cnt m zs 0) (cnt m zs 1)) = true
            · have := q3 hk
              rw [if_pos hk, if_neg this.1, if_neg this.2]
            · rw [if_neg hk]
              rcases q4 (by simpa using hk) with ⟨x, y⟩ | ⟨x, y, z⟩
              · rw [if_pos x, y]
              · rw [if_neg x, if_pos y, z]
          rw [e1, e2, e3, e4]
          rw [h1] at hh
          have hc := fun w h => countsOf_any a cap zs m w h hl (heard_in h1)
          have hr := fun w h => ruleFor_any _ _ w h (cnt_in m zs 0) (cnt_in m zs 1)
          clear q1 q2 q3 q4 e1 e2 e3 e4 h0 hl h1 hb2'
          unfold rule rulV at hr
          generalize pick5 (cnt m zs 0) (cnt m zs 1) = E at *
          generalize fl (cnt m zs 0) = z0 at *
          generalize fl (cnt m zs 1) = o0 at *
          generalize rz E = a0 at *
          generalize ro E = a1 at *
          generalize rp E = a2 at *
          generalize rd E = a4 at *
          generalize rc E = a5 at *
          generalize rv E = a6 at *
          have Bx := Blk.new w 102 #[.int .i64 0, .bool false, .bool false, .int .i64 0]
          have hr1 := hr _ (hG.below hB)
          have hc1 := hc _ (h.below hB)
          have hh1 := hh _ (h.below hB)
          have hc71 := hc7 _ (h.below hB)
          have hv1 := hv _ (h.below hB)
          clear hr hc hh hc7 hv
          have hch1 : decide (0 < cnt 7 zs 0) = false ∨ decide (0 < cnt 7 zs 0) = true ∧ decide (0 < cnt 7 zs 1) = false := by
            revert hch
            cases decide (0 < cnt 7 zs 0) <;> cases decide (0 < cnt 7 zs 1) <;> simp
          clear hch
          generalize fl (cnt 7 zs 0) = z7 at *
          generalize fl (cnt 7 zs 1) = o7 at *
          generalize decide (0 < cnt 7 zs 0) = t0 at *
          generalize decide (0 < cnt 7 zs 1) = t1 at *
          have hg : Hid ((FloatKind.f64.format.order z7 0 == some .gt) = t0 ∧ (FloatKind.f64.format.order o7 0 == some .gt) = t1) := ⟨g0, g1⟩
          clear g0 g1
          go_enter Tryz.func82, Tryz.ntmps82
          go_wp2_with fail
          generalize w.alloc (.cells #[.int .i64 0, .bool false, .bool false, .int .i64 0] 102) = W at *
          refine hv1.mono ?_
          rintro e w' ⟨rfl, hw⟩
          replace hw := hw.symm
          subst hw
          go_wp2_with fail
          refine (within_any _ _ _ _).mono ?_
          rintro e w' ⟨rfl, hw⟩
          replace hw := hw.symm
          subst hw
          rw [hc01]
          go_wp2_with fail
          refine hc71.mono ?_
          rintro e w' ⟨rfl, hw⟩
          replace hw := hw.symm
          subst hw
          clear hv1 hc71
          obtain ⟨g0, g1⟩ := hg.out
          clear hg
          rcases hch1 with rfl | ⟨rfl, rfl⟩
          all_goals
            go_wp2_with fail
            refine hh1.mono ?_
            rintro e w' ⟨rfl, hw⟩
            replace hw := hw.symm
            subst hw
            go_wp2_with fail
            refine hc1.mono ?_
            rintro e w' ⟨rfl, hw⟩
            replace hw := hw.symm
            subst hw
            go_wp2_with fail
            refine hr1.mono ?_
            rintro e w3 ⟨rfl, hb⟩
            replace Bx := Bx.below hb
            replace hB := hB.trans (hb.mono hB.size)
            have hfl := fieldR3 a0 a1 a2 0 a4 a5 a6 w3
            obtain ⟨p0, p1, p2, p3⟩ := Bx.cel4
            obtain ⟨f0, f1, f2, f3⟩ := Bx.frz4
            have hlt := Bx.lt
            clear hh1 hc1 hr1 hb Bx
            cases a5
            · go_wp2
              exact bodyPost_ret (v := .agg #[.int .i64 0, .bool a4, .bool false, .int .i64 a6]) (by simp [results, Tryz.results82, go_sem, p0, p1, p2, p3, hlt, Nat.ne_of_lt hlt]) rfl ⟨rfl, by repeat first | exact hB | refine Below.setCell ?_ (by first | exact Nat.le_refl _ | (have := hB.size; simp; omega)) _ | refine Below.alloc ?_ (by have := hB.size; simp; omega) _⟩
            · go_wp2
              exact bodyPost_ret (v := .agg #[.int .i64 0, .bool a4, .bool true, .int .i64 c]) (by simp [results, Tryz.results82, go_sem, p0, p1, p2, p3, hlt, Nat.ne_of_lt hlt]) rfl ⟨rfl, by repeat first | exact hB | refine Below.setCell ?_ (by first | exact Nat.le_refl _ | (have := hB.size; simp; omega)) _ | refine Below.alloc ?_ (by have := hB.size; simp; omega) _⟩
        · have h1' : heard zs m = false := by simpa using h1
          have e1 : chC zs m c = 10 := by simp [chC, h0, hc01, hb2', h1']
          have e2 : cfD zs m c = false := by simp [cfD, e1]
          have e3 : cfK zs m c = false := by simp [cfK, e1]
          have e4 : cfV zs m c = 0 := by simp [cfV, e1]
          rw [e1, e2, e3, e4]
          rw [h1'] at hh
          have hch1 : decide (0 < cnt 7 zs 0) = false ∨ decide (0 < cnt 7 zs 0) = true ∧ decide (0 < cnt 7 zs 1) = false := by
            revert hch
            cases decide (0 < cnt 7 zs 0) <;> cases decide (0 < cnt 7 zs 1) <;> simp
          clear e1 e2 e3 e4 h0 hl h1 hch hb2' hB
          generalize fl (cnt 7 zs 0) = z7 at *
          generalize fl (cnt 7 zs 1) = o7 at *
          generalize decide (0 < cnt 7 zs 0) = t0 at *
          generalize decide (0 < cnt 7 zs 1) = t1 at *
          rcases hch1 with rfl | ⟨rfl, rfl⟩
          all_goals
            go_enter Tryz.func82, Tryz.ntmps82
            go_wp2_with (first | (go_at_call 58; refine (hv _ (h.below (by go_grown))).mono ?_; rintro e w' ⟨rfl, rfl⟩) | (go_at_call 70; refine (within_any _ _ _ _).mono ?_; rintro e w' ⟨rfl, rfl⟩) | (go_at_call 99; refine (hc7 _ (h.below (by go_grown))).mono ?_; rintro e w' ⟨rfl, rfl⟩) | (go_at_call 100; refine (hh _ (h.below (by go_grown))).mono ?_; rintro e w' ⟨rfl, rfl⟩))
            exact bodyPost_ret (v := .agg #[.int .i64 10, .bool false, .bool false, .int .i64 0]) (by simp [results, Tryz.results82, go_sem]) rfl ⟨rfl, by go_grown⟩
    · have hc01' : inB c 0 1 = false := by simpa using hc01
      have e1 : chC zs m c = 3 := by simp [chC, h0, hc01']
      have e2 : cfD zs m c = false := by simp [cfD, e1]
      have e3 : cfK zs m c = false := by simp [cfK, e1]
      have e4 : cfV zs m c = 0 := by simp [cfV, e1]
      rw [e1, e2, e3, e4]
      clear e1 e2 e3 e4 h0 hl hc01 hB
      go_enter Tryz.func82, Tryz.ntmps82
      go_wp2_with (first | (go_at_call 58; refine (hv _ (h.below (by go_grown))).mono ?_; rintro e w' ⟨rfl, rfl⟩) | (go_at_call 70; refine (within_any _ _ _ _).mono ?_; rintro e w' ⟨rfl, rfl⟩))
      exact bodyPost_ret (v := .agg #[.int .i64 3, .bool false, .bool false, .int .i64 0]) (by simp [results, Tryz.results82, go_sem]) rfl ⟨rfl, by go_grown⟩
  · have e1 : chC zs m c = vf zs 2 := by simp [chC, h0]
    have e2 : cfD zs m c = false := by simp [cfD, e1, h0]
    have e3 : cfK zs m c = false := by simp [cfK, e1, h0]
    have e4 : cfV zs m c = 0 := by simp [cfV, e1, h0]
    rw [e1, e2, e3, e4]
    have h0' : (vf zs 2 != 0) = true := by simpa using h0
    clear e1 e2 e3 e4 h0 hB
    generalize vf zs 2 = x at *
    go_enter Tryz.func82, Tryz.ntmps82
    go_wp2_with (go_at_call 58; refine (hv _ (h.below (by go_grown))).mono ?_; rintro e w' ⟨rfl, rfl⟩)
    exact bodyPost_ret (v := .agg #[.int .i64 x, .bool false, .bool false, .int .i64 0]) (by simp [results, Tryz.results82, go_sem]) rfl ⟨rfl, by go_grown⟩

end Go.Proofs.YtmlkfmjenkcflaaGreatDoor

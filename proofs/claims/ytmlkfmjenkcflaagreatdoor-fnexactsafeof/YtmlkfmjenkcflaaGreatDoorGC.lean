/- The table of rules, and the rule that fits: how many voted 0 and 1 is one complex number. -/
import Derived.Test.YtmlkfmjenkcflaaGreatDoorGA
import Derived.Test.YtmlkfmjenkcflaaGreatDoorGB
namespace Go.Proofs.YtmlkfmjenkcflaaGreatDoor
open Go.RowKit
set_option linter.unusedVariables false
set_option maxRecDepth 100000
set_option linter.unusedSimpArgs false

/-- The table's cells. -/
def rulL : List Value := [
  .int .i64 2, .int .i64 0, .int .i64 0, .int .i64 0, .bool true, .bool false, .int .i64 0,
  .int .i64 0, .int .i64 2, .int .i64 1, .int .i64 0, .bool true, .bool false, .int .i64 1,
  .int .i64 1, .int .i64 0, .int .i64 2, .int .i64 0, .bool false, .bool false, .int .i64 0,
  .int .i64 0, .int .i64 1, .int .i64 2, .int .i64 0, .bool false, .bool false, .int .i64 1,
  .int .i64 0, .int .i64 0, .int .i64 2, .int .i64 0, .bool false, .bool true, .int .i64 0]
/-- The variable holds the table. -/
def Rul (w : World) : Prop := ∀ i v, rulL[i]? = some v → w.cell? ⟨0, i, none⟩ = some v
theorem Rul.below {w w' : World} (h : Rul w) (hb : Below w.heap.size w w') : Rul w' := by
  intro i v hv
  have h1 := h i v hv
  rw [hb.cell (p := ⟨0, i, none⟩) (World.block_lt_of_cell? w ⟨0, i, none⟩ h1)]
  exact h1

/-- A number as a float. -/
abbrev fl (n : Int) : Nat := floatOfInt FloatKind.f64 n
theorem fl_geq4 : ∀ a ∈ [(0 : Int), 1, 2, 3], ∀ b ∈ [(0 : Int), 1, 2, 3], (FloatKind.f64.format.order (fl a) (fl b) == some .gt || FloatKind.f64.format.order (fl a) (fl b) == some .eq) = decide (b ≤ a) := by decide +kernel
theorem fl_gtr4 : ∀ a ∈ [(0 : Int), 1, 2, 3], (FloatKind.f64.format.order (fl a) 0 == some .gt) = decide (0 < a) := by decide +kernel
theorem four {a : Int} (h : 0 ≤ a ∧ a ≤ 3) : a ∈ [(0 : Int), 1, 2, 3] := by
  have : a = 0 ∨ a = 1 ∨ a = 2 ∨ a = 3 := by omega
  rcases this with rfl | rfl | rfl | rfl <;> simp
theorem fl_geq {a b : Int} (ha : 0 ≤ a ∧ a ≤ 3) (hb : 0 ≤ b ∧ b ≤ 3) : (FloatKind.f64.format.order (fl a) (fl b) == some .gt || FloatKind.f64.format.order (fl a) (fl b) == some .eq) = decide (b ≤ a) := fl_geq4 a (four ha) b (four hb)
theorem fl_gtr {a : Int} (ha : 0 ≤ a ∧ a ≤ 3) : (FloatKind.f64.format.order (fl a) 0 == some .gt) = decide (0 < a) := fl_gtr4 a (four ha)

/-- The value of a rule. -/
def rulV (zi oi pr : Int) (d k : Bool) (vl : Int) : Value := .agg #[.int .i64 zi, .int .i64 oi, .int .i64 pr, .int .i64 0, .bool d, .bool k, .int .i64 vl]

set_option maxHeartbeats 2000000 in
theorem fits_any (zi oi pr : Int) (d k : Bool) (vl z o : Int) (w : World) (hzi : 0 ≤ zi ∧ zi ≤ 3) (hoi : 0 ≤ oi ∧ oi ≤ 3) (hz : 0 ≤ z ∧ z ≤ 3) (ho : 0 ≤ o ∧ o ≤ 3) :
    Calls Tryz.prog 110 #[rulV zi oi pr d k vl, .complex .f64 (fl z) (fl o)] w fun e w' => e = .returned (.bool (decide (zi ≤ z) && decide (oi ≤ o))) ∧ Below w.heap.size w w' := by
  have f1 := fl_geq hz hzi
  have f2 := fl_geq ho hoi
  unfold rulV
  generalize fl z = z0 at f1 ⊢
  generalize fl o = o0 at f2 ⊢
  dsimp only [fl] at f1 f2
  by_cases h1 : zi ≤ z
  · have d1 : decide (zi ≤ z) = true := decide_eq_true h1
    rw [d1] at f1 ⊢
    generalize decide (oi ≤ o) = t at f2 ⊢
    clear h1 d1 hzi hoi hz ho
    go_enter Tryz.func110, Tryz.ntmps110
    go_wp2
    go_ret
    exact ⟨by simp [f2], by go_grown⟩
  · have d1 : decide (zi ≤ z) = false := decide_eq_false h1
    rw [d1] at f1 ⊢
    clear h1 d1 hzi hoi hz ho f2
    go_enter Tryz.func110, Tryz.ntmps110
    go_wp2
    go_ret
    exact ⟨by simp, by go_grown⟩

end Go.Proofs.YtmlkfmjenkcflaaGreatDoor

/- The rule that fits, the counts, and whether a quorum was heard. -/
namespace Go.Proofs.YtmlkfmjenkcflaaGreatDoor
open Go.RowKit
set_option linter.unusedVariables false
set_option maxRecDepth 100000
set_option linter.unusedSimpArgs false

/-- The rules, one by one. -/
def rz (k : Nat) : Int := [2, 0, 1, 0, 0].getD k 0
def ro (k : Nat) : Int := [0, 2, 0, 1, 0].getD k 0
def rp (k : Nat) : Int := [0, 1, 2, 2, 2].getD k 0
def rd (k : Nat) : Bool := [true, true, false, false, false].getD k false
def rc (k : Nat) : Bool := [false, false, false, false, true].getD k false
def rv (k : Nat) : Int := [0, 1, 0, 1, 0].getD k 0
def rule (k : Nat) : Value := rulV (rz k) (ro k) (rp k) (rd k) (rc k) (rv k)
def fitB (k : Nat) (z o : Int) : Bool := decide (rz k ≤ z) && decide (ro k ≤ o)
/-- Which rule is it? -/
def pick5 (z o : Int) : Nat := if 2 ≤ z then 0 else if 2 ≤ o then 1 else if 1 ≤ z then 2 else if 1 ≤ o then 3 else 4
theorem pick4 : ∀ z ∈ [(0 : Int), 1, 2, 3], ∀ o ∈ [(0 : Int), 1, 2, 3], pick5 z o ≤ 4 ∧ ∀ k, k < 5 → k ≤ pick5 z o → (fitB k z o = true → k = pick5 z o) ∧ (fitB k z o = false → k + 1 ≤ pick5 z o) := by decide +kernel
theorem pick_at {z o : Int} (hz : 0 ≤ z ∧ z ≤ 3) (ho : 0 ≤ o ∧ o ≤ 3) : pick5 z o ≤ 4 ∧ ∀ k, k < 5 → k ≤ pick5 z o → (fitB k z o = true → k = pick5 z o) ∧ (fitB k z o = false → k + 1 ≤ pick5 z o) := pick4 z (four hz) o (four ho)
theorem rul_at {w : World} (h : Rul w) (k : Nat) (hk : k < 5) : w.cell? ⟨0, k * 7, none⟩ = some (.int .i64 (rz k)) ∧ w.cell? ⟨0, k * 7 + 1, none⟩ = some (.int .i64 (ro k)) ∧ w.cell? ⟨0, k * 7 + 2, none⟩ = some (.int .i64 (rp k)) ∧ w.cell? ⟨0, k * 7 + 3, none⟩ = some (.int .i64 0) ∧
    w.cell? ⟨0, k * 7 + 4, none⟩ = some (.bool (rd k)) ∧ w.cell? ⟨0, k * 7 + 5, none⟩ = some (.bool (rc k)) ∧ w.cell? ⟨0, k * 7 + 6, none⟩ = some (.int .i64 (rv k)) := by
  match k, hk with
  | 0, _ => exact ⟨h _ _ rfl, h _ _ rfl, h _ _ rfl, h _ _ rfl, h _ _ rfl, h _ _ rfl, h _ _ rfl⟩
  | 1, _ => exact ⟨h _ _ rfl, h _ _ rfl, h _ _ rfl, h _ _ rfl, h _ _ rfl, h _ _ rfl, h _ _ rfl⟩
  | 2, _ => exact ⟨h _ _ rfl, h _ _ rfl, h _ _ rfl, h _ _ rfl, h _ _ rfl, h _ _ rfl, h _ _ rfl⟩
  | 3, _ => exact ⟨h _ _ rfl, h _ _ rfl, h _ _ rfl, h _ _ rfl, h _ _ rfl, h _ _ rfl, h _ _ rfl⟩
  | 4, _ => exact ⟨h _ _ rfl, h _ _ rfl, h _ _ rfl, h _ _ rfl, h _ _ rfl, h _ _ rfl, h _ _ rfl⟩

theorem r_in (k : Nat) (hk : k < 5) : (0 ≤ rz k ∧ rz k ≤ 3) ∧ (0 ≤ ro k ∧ ro k ≤ 3) := by
  match k, hk with
  | 0, _ => decide
  | 1, _ => decide
  | 2, _ => decide
  | 3, _ => decide
  | 4, _ => decide

set_option maxHeartbeats 400000 in
theorem ruleFor_any (z o : Int) (w : World) (hG : Rul w) (hz : 0 ≤ z ∧ z ≤ 3) (ho : 0 ≤ o ∧ o ≤ 3) :
    Calls Tryz.prog 101 #[.complex .f64 (fl z) (fl o)] w fun e w' => e = .returned (rule (pick5 z o)) ∧ Below w.heap.size w w' := by
  obtain ⟨hp, hpk⟩ := pick_at hz ho
  generalize hE : pick5 z o = E at hp hpk ⊢
  clear hE
  have hfit := fun k (hk : k < 5) w => fits_any (rz k) (ro k) (rp k) (rd k) (rc k) (rv k) z o w (r_in k hk).1 (r_in k hk).2 hz ho
  generalize fl z = z0 at hfit ⊢
  generalize fl o = o0 at hfit ⊢
  go_enter Tryz.func101, Tryz.ntmps101
  go_wp2
  have Bx := Blk.new w 140 #[.int .i64 0, .int .i64 0, .int .i64 0, .int .i64 0, .bool false, .bool false, .int .i64 0]
  have hB : Below w.heap.size w (w.alloc (.cells #[.int .i64 0, .int .i64 0, .int .i64 0, .int .i64 0, .bool false, .bool false, .int .i64 0] 140)) := by go_grown
  generalize w.alloc (.cells #[.int .i64 0, .int .i64 0, .int .i64 0, .int .i64 0, .bool false, .bool false, .int .i64 0] 140) = W at *
  go_loopw [3] (fun i wr => ∃ k : Nat, k < 5 ∧ k ≤ E ∧ i = .int .i64 k ∧ Below W.heap.size W wr) (fun i _ => 5 - (intOf i).toNat)
  case atStart => exact ⟨0, by omega, Nat.zero_le _, rfl, Below.refl _ _⟩
  case round =>
    obtain ⟨k, hk, hkE, rfl, hb⟩ := hrel
    replace hB := hB.trans (hb.mono hB.size)
    replace Bx := Bx.below hb
    obtain ⟨c0, c1, c2, c3, c4, c5, c6⟩ := rul_at (hG.below hB) k hk
    obtain ⟨hy, hn⟩ := hpk k hk hkE
    have HY : Hid (fitB k z o = true → k = E) := hy
    have HN : Hid (fitB k z o = false → k + 1 ≤ E) := hn
    have hf := hfit k hk wr
    rw [show (decide (rz k ≤ z) && decide (ro k ≤ o)) = fitB k z o from rfl] at hf
    clear hfit hpk hy hn
    unfold rulV at hf
    have HV : Hid (rule k = .agg #[.int .i64 (rz k), .int .i64 (ro k), .int .i64 (rp k), .int .i64 0, .bool (rd k), .bool (rc k), .int .i64 (rv k)]) := rfl
    generalize rz k = a0 at *
    generalize ro k = a1 at *
    generalize rp k = a2 at *
    generalize rd k = a4 at *
    generalize rc k = a5 at *
    generalize rv k = a6 at *
    go_wp2_with fail
    refine hf.mono ?_
    rintro e w2 ⟨rfl, hb2⟩
    have hz2 := World.block_lt_of_cell? wr ⟨0, k * 7, none⟩ c0
    dsimp only at hz2
    replace c0 := (hb2.cell (p := ⟨0, k * 7, none⟩) hz2).trans c0
    replace c1 := (hb2.cell (p := ⟨0, k * 7 + 1, none⟩) hz2).trans c1
    replace c2 := (hb2.cell (p := ⟨0, k * 7 + 2, none⟩) hz2).trans c2
    replace c3 := (hb2.cell (p := ⟨0, k * 7 + 3, none⟩) hz2).trans c3
    replace c4 := (hb2.cell (p := ⟨0, k * 7 + 4, none⟩) hz2).trans c4
    replace c5 := (hb2.cell (p := ⟨0, k * 7 + 5, none⟩) hz2).trans c5
    replace c6 := (hb2.cell (p := ⟨0, k * 7 + 6, none⟩) hz2).trans c6
    replace Bx := Bx.below hb2
    replace hB := hB.trans (hb2.mono hB.size)
    replace hb := hb.trans (hb2.mono hb.size)
    clear hf hb2 hz2
    by_cases hfb : fitB k z o = true
    · have hkE2 := HY.out hfb
      clear HY HN
      rw [hfb]
      obtain ⟨p0, p1, p2, p3, p4, p5, p6⟩ := Bx.cel7
      obtain ⟨f0, f1, f2, f3, f4, f5, f6⟩ := Bx.frz7
      have hV : Hid (rule E = .agg #[.int .i64 a0, .int .i64 a1, .int .i64 a2, .int .i64 0, .bool a4, .bool a5, .int .i64 a6]) := by rw [← hkE2]; exact HV.out
      have hB7 := ((((((hB.setCell (p := ⟨w.heap.size, 0, none⟩) (Nat.le_refl _) (.int .i64 a0)).setCell (p := ⟨w.heap.size, 1, none⟩) (Nat.le_refl _) (.int .i64 a1)).setCell (p := ⟨w.heap.size, 2, none⟩) (Nat.le_refl _) (.int .i64 a2)).setCell (p := ⟨w.heap.size, 3, none⟩) (Nat.le_refl _) (.int .i64 0)).setCell (p := ⟨w.heap.size, 4, none⟩) (Nat.le_refl _) (.bool a4)).setCell (p := ⟨w.heap.size, 5, none⟩) (Nat.le_refl _) (.bool a5)).setCell (p := ⟨w.heap.size, 6, none⟩) (Nat.le_refl _) (.int .i64 a6)
      have HB : Hid (Below w.heap.size w _) := hB7
      clear Bx hB hb hB7 hkE2 HV
      go_wp2
      exact bodyPost_ret (v := .agg #[.int .i64 a0, .int .i64 a1, .int .i64 a2, .int .i64 0, .bool a4, .bool a5, .int .i64 a6]) (by simp [results, Tryz.results101, go_sem, p0, p1, p2, p3, p4, p5, p6]) rfl ⟨by rw [hV.out], HB.out⟩
    · have hfb' : fitB k z o = false := by simpa using hfb
      have hkE2 := HN.out hfb'
      clear HY HN hfb
      rw [hfb']
      clear c0 c1 c2 c3 c4 c5 c6 Bx hB
      go_wp2
      go_roundw
      case rel => exact ⟨k + 1, by omega, hkE2, by go_num, hb⟩
      case measure => simp [intOf]; omega

end Go.Proofs.YtmlkfmjenkcflaaGreatDoor

/- ProposalFor and what it asks, of the program and of its model. -/
namespace Go.Proofs.YtmlkfmjenkcflaaGreatDoor
open Go.RowKit
set_option linter.unusedVariables false
set_option maxRecDepth 100000
set_option linter.unusedSimpArgs false

/-- Was a quorum heard? -/
def heard (zs : List Int) (m : Int) : Bool := isQ m && (cnt m zs 3 == 0)
theorem isQ_in {m : Int} (h : isQ m = true) : inB m 0 7 = true := by
  unfold isQ at h
  rw [Bool.and_eq_true] at h
  exact h.1
theorem heard_in {zs : List Int} {m : Int} (h : heard zs m = true) : inB m 0 7 = true := by
  unfold heard at h
  rw [Bool.and_eq_true] at h
  exact isQ_in h.1
theorem vfa2 (zs : List Int) : vfault zs 2 = vf zs 2 := by simp [vfault, inB]
theorem vfa1 (zs : List Int) : vfault zs 1 = vf zs 1 := by simp [vfault, inB]

set_option maxHeartbeats 1000000 in
theorem isHeard_any (a : Option Addr) (cap : Nat) (zs : List Int) (m : Int) (w : World) (h : Row .i64 w a zs) (hl : zs.length = 3) :
    Calls Tryz.prog 100 #[.slice a 3 cap, .int .i64 m] w fun e w' => e = .returned (.bool (heard zs m)) ∧ w' = w := by
  have hq := isQuorum_any m w
  have hvo := votersOf_any a cap zs 3 w h hl
  unfold heard
  by_cases h1 : isQ m = true
  · obtain ⟨q1, q2, q3⟩ := and_vot (isQ_in h1) zs 3
    rw [h1] at hq ⊢
    rw [← q3]
    clear q1 q2 q3 h1
    generalize vot zs 3 = u at *
    go_enter Tryz.func100, Tryz.ntmps100
    go_wp2_with (first | (go_at_call 109; refine hq.mono ?_; rintro e w' ⟨rfl, rfl⟩) | (go_at_call 77; refine hvo.mono ?_; rintro e w' ⟨rfl, rfl⟩))
    go_ret
    exact ⟨by simp, rfl⟩
  · have h1' : isQ m = false := by simpa using h1
    rw [h1'] at hq ⊢
    clear h1 h1'
    go_enter Tryz.func100, Tryz.ntmps100
    go_wp2_with (go_at_call 109; refine hq.mono ?_; rintro e w' ⟨rfl, rfl⟩)
    go_ret
    exact ⟨by simp, rfl⟩

set_option maxHeartbeats 1000000 in
theorem countsOf_any (a : Option Addr) (cap : Nat) (zs : List Int) (m : Int) (w : World) (h : Row .i64 w a zs) (hl : zs.length = 3) (hm : inB m 0 7 = true) :
    Calls Tryz.prog 99 #[.slice a 3 cap, .int .i64 m] w fun e w' => e = .returned (.complex .f64 (fl (cnt m zs 0)) (fl (cnt m zs 1))) ∧ w' = w := by
  obtain ⟨q1, q2, _⟩ := and_vot hm zs 0
  obtain ⟨r1, r2, _⟩ := and_vot hm zs 1
  have hn0 := nodesIn_any _ w q1
  have hn1 := nodesIn_any _ w r1
  rw [q2] at hn0
  rw [r2] at hn1
  have hv0 := votersOf_any a cap zs 0 w h hl
  have hv1 := votersOf_any a cap zs 1 w h hl
  clear q1 q2 r1 r2
  generalize vot zs 0 = u0 at *
  generalize vot zs 1 = u1 at *
  generalize cnt m zs 0 = c0 at *
  generalize cnt m zs 1 = c1 at *
  go_enter Tryz.func99, Tryz.ntmps99
  go_wp2_with fail
  refine hv0.mono ?_
  rintro e w' ⟨rfl, hw⟩
  replace hw := hw.symm
  subst hw
  go_wp2_with fail
  refine hn0.mono ?_
  rintro e w' ⟨rfl, hw⟩
  replace hw := hw.symm
  subst hw
  go_wp2_with fail
  refine hv1.mono ?_
  rintro e w' ⟨rfl, hw⟩
  replace hw := hw.symm
  subst hw
  go_wp2_with fail
  refine hn1.mono ?_
  rintro e w' ⟨rfl, hw⟩
  replace hw := hw.symm
  subst hw
  go_wp2
  go_ret
  exact ⟨rfl, rfl⟩

end Go.Proofs.YtmlkfmjenkcflaaGreatDoor

/- ProposalFor of the program and of its model: the same code and value. -/
namespace Go.Proofs.YtmlkfmjenkcflaaGreatDoor
open Go.RowKit
set_option linter.unusedVariables false
set_option maxRecDepth 100000
set_option linter.unusedSimpArgs false

def pr2 (z o : Int) : Int := if 2 ≤ z then 0 else if 2 ≤ o then 1 else 2
def pfC (zs : List Int) (m : Int) : Int := if vf zs 1 = 0 then (if heard zs m then 0 else 10) else vf zs 1
def pfV (zs : List Int) (m : Int) : Int := if pfC zs m = 0 then pr2 (cnt m zs 0) (cnt m zs 1) else 0
theorem rp_pr4 : ∀ z ∈ [(0 : Int), 1, 2, 3], ∀ o ∈ [(0 : Int), 1, 2, 3], rp (pick5 z o) = pr2 z o := by decide +kernel

theorem fieldR2 (a0 a1 a2 a3 : Int) (a4 a5 : Bool) (a6 : Int) (w : World) : (Instr.field 140 (.agg #[.int .i64 a0, .int .i64 a1, .int .i64 a2, .int .i64 a3, .bool a4, .bool a5, .int .i64 a6]) 2).run Tryz.prog w = .ok (.int .i64 a2) w := by kernel_rfl
theorem fieldR3 (a0 a1 a2 a3 : Int) (a4 a5 : Bool) (a6 : Int) (w : World) : (Instr.field 140 (.agg #[.int .i64 a0, .int .i64 a1, .int .i64 a2, .int .i64 a3, .bool a4, .bool a5, .int .i64 a6]) 3).run Tryz.prog w = .ok (.agg #[.int .i64 a3, .bool a4, .bool a5, .int .i64 a6]) w := by kernel_rfl

set_option maxHeartbeats 1000000 in
theorem implProp_any (a : Option Addr) (cap : Nat) (zs : List Int) (m : Int) (w : World) (hG : Rul w) (h : Row .i64 w a zs) (hm : zs.length ≤ 9223372036854775807) :
    Calls Tryz.prog 84 #[.slice a zs.length cap, .int .i64 m] w fun e w' => e = .returned (.agg #[.int .i64 (pfC zs m), .int .i64 (pfV zs m)]) ∧ Below w.heap.size w w' := by
  have hB : Below w.heap.size w (w.alloc (.cells #[.int .i64 0, .int .i64 0] 99)) := by go_grown
  have hv := fun w h => votesFault_any a cap zs 1 w h hm
  rw [vfa1] at hv
  by_cases h0 : vf zs 1 = 0
  · have hl := vf_len h0
    rw [h0] at hv
    rw [hl] at hv ⊢
    have hh := isHeard_any a cap zs m _ (h.below hB) hl
    by_cases h1 : heard zs m = true
    · have e1 : pfC zs m = 0 := by simp [pfC, h0, h1]
      have e2 : pfV zs m = pr2 (cnt m zs 0) (cnt m zs 1) := by simp [pfV, e1]
      have e3 := rp_pr4 _ (four (cnt_in m zs 0)) _ (four (cnt_in m zs 1))
      have hc := countsOf_any a cap zs m _ (h.below hB) hl (heard_in h1)
      have hr := ruleFor_any _ _ _ (hG.below hB) (cnt_in m zs 0) (cnt_in m zs 1)
      rw [e1, e2, ← e3]
      rw [h1] at hh
      clear e1 e2 e3 h0 hl h1
      unfold rule rulV at hr
      generalize pick5 (cnt m zs 0) (cnt m zs 1) = E at *
      generalize fl (cnt m zs 0) = z0 at *
      generalize fl (cnt m zs 1) = o0 at *
      generalize rz E = a0 at *
      generalize ro E = a1 at *
      generalize rp E = a2 at *
      generalize rd E = a4 at *
      generalize rc E = a5 at *
      generalize rv E = a6 at *
      have Bx := Blk.new w 99 #[.int .i64 0, .int .i64 0]
      have hv1 := hv _ (h.below hB)
      clear hv
      go_enter Tryz.func84, Tryz.ntmps84
      go_wp2_with fail
      generalize w.alloc (.cells #[.int .i64 0, .int .i64 0] 99) = W at *
      refine hv1.mono ?_
      rintro e w' ⟨rfl, hw⟩
      replace hw := hw.symm
      subst hw
      go_wp2_with fail
      refine hh.mono ?_
      rintro e w' ⟨rfl, hw⟩
      replace hw := hw.symm
      subst hw
      go_wp2_with fail
      refine hc.mono ?_
      rintro e w' ⟨rfl, hw⟩
      replace hw := hw.symm
      subst hw
      go_wp2_with fail
      refine hr.mono ?_
      rintro e w' ⟨rfl, hb⟩
      replace Bx := Bx.below hb
      replace hB := hB.trans (hb.mono hB.size)
      obtain ⟨p0, p1⟩ := Bx.cel2
      obtain ⟨f0, f1⟩ := Bx.frz2
      have hfl := fieldR2 a0 a1 a2 0 a4 a5 a6 w'
      clear hb hv1 hh hc hr Bx
      go_wp2
      exact bodyPost_ret (v := .agg #[.int .i64 0, .int .i64 a2]) (by simp [results, Tryz.results84, go_sem, p0, p1]) rfl ⟨rfl, (hB.setCell (p := ⟨w.heap.size, 0, none⟩) (Nat.le_refl _) _).setCell (p := ⟨w.heap.size, 1, none⟩) (Nat.le_refl _) _⟩
    · have h1' : heard zs m = false := by simpa using h1
      have e1 : pfC zs m = 10 := by simp [pfC, h0, h1']
      have e2 : pfV zs m = 0 := by simp [pfV, e1]
      rw [e1, e2]
      rw [h1'] at hh
      clear e1 e2 h0 hl h1
      go_enter Tryz.func84, Tryz.ntmps84
      go_wp2_with (first | (go_at_call 58; refine (hv _ (h.below (by go_grown))).mono ?_; rintro e w' ⟨rfl, rfl⟩) | (go_at_call 100; refine hh.mono ?_; rintro e w' ⟨rfl, rfl⟩))
      exact bodyPost_ret (v := .agg #[.int .i64 10, .int .i64 0]) (by simp [results, Tryz.results84, go_sem]) rfl ⟨rfl, by go_grown⟩
  · have e1 : pfC zs m = vf zs 1 := by simp [pfC, h0]
    have e2 : pfV zs m = 0 := by simp [pfV, e1, h0]
    rw [e1, e2]
    clear e1 e2
    have h0' : (vf zs 1 != 0) = true := by simpa using h0
    clear h0
    generalize vf zs 1 = c at *
    go_enter Tryz.func84, Tryz.ntmps84
    go_wp2_with (go_at_call 58; refine (hv _ (h.below (by go_grown))).mono ?_; rintro e w' ⟨rfl, rfl⟩)
    exact bodyPost_ret (v := .agg #[.int .i64 c, .int .i64 0]) (by simp [results, Tryz.results84, go_sem]) rfl ⟨rfl, by go_grown⟩

set_option maxHeartbeats 1000000 in
theorem l5Heard_any (a : Option Addr) (cap : Nat) (zs : List Int) (m : Int) (w : World) (h : Row .i64 w a zs) (hl : zs.length = 3) :
    Calls Tryz.prog 64 #[.slice a 3 cap, .int .i64 m] w fun e w' => e = .returned (.bool (heard zs m)) ∧ Below w.heap.size w w' := by
  have hq := l5Quorum_any m w
  unfold heard
  by_cases h1 : isQ m = true
  · have hvo := fun w h => l5Count_any a cap zs m 3 w h hl (isQ_in h1)
    rw [h1] at hq ⊢
    clear h1
    generalize cnt m zs 3 = u at *
    go_enter Tryz.func64, Tryz.ntmps64
    go_wp2_with fail
    refine hq.mono ?_
    rintro e w1 ⟨rfl, b1⟩
    have hv1 := hvo w1 (h.below b1)
    clear hvo hq
    go_wp2_with fail
    refine hv1.mono ?_
    rintro e w2 ⟨rfl, b2⟩
    replace b2 := b1.trans (b2.mono b1.size)
    clear hv1
    go_wp2
    go_ret
    exact ⟨by simp, b2⟩
  · have h1' : isQ m = false := by simpa using h1
    rw [h1'] at hq ⊢
    clear h1 h1'
    go_enter Tryz.func64, Tryz.ntmps64
    go_wp2_with (go_at_call 78; refine hq.mono ?_; rintro e w' ⟨rfl, b1⟩)
    go_ret
    exact ⟨by simp, b1⟩

set_option maxHeartbeats 1000000 in
theorem l5Proposal_any (a : Option Addr) (cap : Nat) (zs : List Int) (m : Int) (w : World) (h : Row .i64 w a zs) (hl : zs.length = 3) (hm : inB m 0 7 = true) :
    Calls Tryz.prog 65 #[.slice a 3 cap, .int .i64 m] w fun e w' => e = .returned (.int .i64 (pr2 (cnt m zs 0) (cnt m zs 1))) ∧ Below w.heap.size w w' := by
  have hc0 := fun w h => l5Count_any a cap zs m 0 w h hl hm
  have hc1 := fun w h => l5Count_any a cap zs m 1 w h hl hm
  generalize cnt m zs 0 = z at *
  generalize cnt m zs 1 = o at *
  generalize hE : pr2 z o = E
  unfold pr2 at hE
  have h0 := hc0 w h
  clear hc0
  by_cases hz : 2 ≤ z
  · rw [if_pos hz] at hE
    have HE : Hid (E = 0) := hE.symm
    clear hc1 hE
    go_enter Tryz.func65, Tryz.ntmps65
    go_wp2
    refine wp_loop_rounds 1 ?_
    rw [rounds_succ]
    go_wp2_with fail
    refine h0.mono ?_
    rintro e w1 ⟨rfl, b1⟩
    clear h0
    go_wp2
    go_ret
    exact ⟨by rw [HE.out]; rfl, b1⟩
  · rw [if_neg hz] at hE
    have HE : Hid (E = if 2 ≤ o then 1 else 2) := hE.symm
    clear hE
    go_enter Tryz.func65, Tryz.ntmps65
    go_wp2
    refine wp_loop_rounds 3 ?_
    rw [rounds_succ]
    go_wp2_with fail
    refine h0.mono ?_
    rintro e w1 ⟨rfl, b1⟩
    have h1 := hc1 w1 (h.below b1)
    clear h0 hc1
    by_cases ho : 2 ≤ o
    · have HE2 : Hid (E = 1) := HE.out.trans (if_pos ho)
      clear HE
      go_wp2_with fail
      rw [rounds_succ]
      go_wp2_with fail
      refine h1.mono ?_
      rintro e w2 ⟨rfl, b2⟩
      replace b2 := b1.trans (b2.mono b1.size)
      clear h1
      go_wp2
      go_ret
      exact ⟨by rw [HE2.out]; rfl, b2⟩
    · have HE2 : Hid (E = 2) := HE.out.trans (if_neg ho)
      clear HE
      go_wp2_with fail
      rw [rounds_succ]
      go_wp2_with fail
      refine h1.mono ?_
      rintro e w2 ⟨rfl, b2⟩
      replace b2 := b1.trans (b2.mono b1.size)
      clear h1
      go_wp2
      rw [rounds_succ]
      go_wp2
      go_ret
      exact ⟨by rw [HE2.out]; rfl, b2⟩

end Go.Proofs.YtmlkfmjenkcflaaGreatDoor

/- ProposalFor of the model. -/
namespace Go.Proofs.YtmlkfmjenkcflaaGreatDoor
open Go.RowKit
set_option linter.unusedVariables false
set_option maxRecDepth 100000
set_option linter.unusedSimpArgs false

set_option maxHeartbeats 1000000 in
theorem specProp_any (a : Option Addr) (cap : Nat) (zs : List Int) (m : Int) (w : World) (h : Row .i64 w a zs) (hm : zs.length ≤ 9223372036854775807) :
    Calls Tryz.prog 54 #[.slice a zs.length cap, .int .i64 m] w fun e w' => e = .returned (.agg #[.int .i64 (pfC zs m), .int .i64 (pfV zs m)]) ∧ Below w.heap.size w w' := by
  obtain ⟨C, hC⟩ : ∃ C, pfC zs m = C := ⟨_, rfl⟩
  obtain ⟨V, hV⟩ : ∃ V, pfV zs m = V := ⟨_, rfl⟩
  have HC : Hid (pfC zs m = C ∧ pfV zs m = V) := And.intro hC hV
  rw [hC, hV]
  clear hC hV
  have hB : Below w.heap.size w (w.alloc (.cells #[.int .i64 0, .int .i64 0] 99)) := by go_grown
  have Bx := Blk.new w 99 #[.int .i64 0, .int .i64 0]
  have hv := l5Votes_any a cap zs 1 _ (h.below hB) hm
  go_enter Tryz.func54, Tryz.ntmps54
  go_wp2_with fail
  generalize w.alloc (.cells #[.int .i64 0, .int .i64 0] 99) = W at *
  refine hv.mono ?_
  rintro e w1 ⟨rfl, hb⟩
  replace Bx := Bx.below hb
  replace hB := hB.trans (hb.mono hB.size)
  clear hv hb
  by_cases h0 : vf zs 1 = 0
  · have hl := vf_len h0
    have hh := l5Heard_any a cap zs m w1 (h.below hB) hl
    rw [h0, hl]
    by_cases h1 : heard zs m = true
    · have HE : Hid (C = 0 ∧ V = pr2 (cnt m zs 0) (cnt m zs 1)) := by
        obtain ⟨e1, e2⟩ := HC.out
        have e3 : pfC zs m = 0 := by simp [pfC, h0, h1]
        exact ⟨e1.symm.trans e3, e2.symm.trans (by simp [pfV, e3])⟩
      have hp := fun w h => l5Proposal_any a cap zs m w h hl (heard_in h1)
      rw [h1] at hh
      clear h0 hl h1 HC
      generalize pr2 (cnt m zs 0) (cnt m zs 1) = P at *
      go_wp2_with fail
      refine hh.mono ?_
      rintro e w2 ⟨rfl, hb⟩
      replace Bx := Bx.below hb
      replace hB := hB.trans (hb.mono hB.size)
      have hp2 := hp w2 (h.below hB)
      clear hh hb hp
      go_wp2_with fail
      refine hp2.mono ?_
      rintro e w3 ⟨rfl, hb⟩
      replace Bx := Bx.below hb
      replace hB := hB.trans (hb.mono hB.size)
      obtain ⟨p0, p1⟩ := Bx.cel2
      obtain ⟨f0, f1⟩ := Bx.frz2
      clear hp2 hb Bx
      go_wp2
      exact bodyPost_ret (v := .agg #[.int .i64 0, .int .i64 P]) (by simp [results, Tryz.results54, go_sem, p0, p1]) rfl ⟨by rw [HE.out.1, HE.out.2], (hB.setCell (p := ⟨w.heap.size, 0, none⟩) (Nat.le_refl _) _).setCell (p := ⟨w.heap.size, 1, none⟩) (Nat.le_refl _) _⟩
    · have h1' : heard zs m = false := by simpa using h1
      have HE : Hid (C = 10 ∧ V = 0) := by
        obtain ⟨e1, e2⟩ := HC.out
        have e3 : pfC zs m = 10 := by simp [pfC, h0, h1']
        exact ⟨e1.symm.trans e3, e2.symm.trans (by simp [pfV, e3])⟩
      rw [h1'] at hh
      clear h0 hl h1 HC
      go_wp2_with fail
      refine hh.mono ?_
      rintro e w2 ⟨rfl, hb⟩
      replace Bx := Bx.below hb
      replace hB := hB.trans (hb.mono hB.size)
      obtain ⟨p0, p1⟩ := Bx.cel2
      obtain ⟨f0, f1⟩ := Bx.frz2
      clear hh hb Bx
      go_wp2
      exact bodyPost_ret (v := .agg #[.int .i64 10, .int .i64 0]) (by simp [results, Tryz.results54, go_sem, p0, p1]) rfl ⟨by rw [HE.out.1, HE.out.2], (hB.setCell (p := ⟨w.heap.size, 0, none⟩) (Nat.le_refl _) _).setCell (p := ⟨w.heap.size, 1, none⟩) (Nat.le_refl _) _⟩
  · have HE : Hid (C = vf zs 1 ∧ V = 0) := by
      obtain ⟨e1, e2⟩ := HC.out
      have e3 : pfC zs m = vf zs 1 := by simp [pfC, h0]
      exact ⟨e1.symm.trans e3, e2.symm.trans (by simp [pfV, e3, h0])⟩
    have h0' : (vf zs 1 != 0) = true := by simpa using h0
    clear h0 HC
    generalize vf zs 1 = c at *
    obtain ⟨p0, p1⟩ := Bx.cel2
    obtain ⟨f0, f1⟩ := Bx.frz2
    clear Bx
    go_wp2
    exact bodyPost_ret (v := .agg #[.int .i64 c, .int .i64 0]) (by simp [results, Tryz.results54, go_sem, p0, p1]) rfl ⟨by rw [HE.out.1, HE.out.2], (hB.setCell (p := ⟨w.heap.size, 0, none⟩) (Nat.le_refl _) _).setCell (p := ⟨w.heap.size, 1, none⟩) (Nat.le_refl _) _⟩

end Go.Proofs.YtmlkfmjenkcflaaGreatDoor

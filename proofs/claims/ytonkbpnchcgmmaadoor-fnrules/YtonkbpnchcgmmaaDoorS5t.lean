/- The rule that fits, the counts, and whether a quorum was heard. -/
import Derived.Test.YtonkbpnchcgmmaaDoorS5r
namespace Go.Proofs.YtonkbpnchcgmmaaDoor
open Go.RowKit
set_option linter.unusedVariables false
set_option linter.unusedSimpArgs false

/-- The rules, one by one. -/
def rz (k : Nat) : Int := [2, 0, 1, 0, 0].getD k 0
def ro (k : Nat) : Int := [0, 2, 0, 1, 0].getD k 0
def rp (k : Nat) : Int := [0, 1, 2, 2, 2].getD k 0
def rd (k : Nat) : Bool := [true, true, false, false, false].getD k false
def rc (k : Nat) : Bool := [false, false, false, false, true].getD k false
def rv (k : Nat) : Int := [0, 1, 0, 1, 0].getD k 0
def rule (k : Nat) : Value := rulV (rz k) (ro k) (rp k) (rd k) (rc k) (rv k)
def fitB (k : Nat) (z o : Int) : Bool := decide (rz k ≤ z) && decide (ro k ≤ o)
/-- Which rule is it? -/
def pick5 (z o : Int) : Nat := if 2 ≤ z then 0 else if 2 ≤ o then 1 else if 1 ≤ z then 2 else if 1 ≤ o then 3 else 4
theorem pick4 : ∀ z ∈ [(0 : Int), 1, 2, 3], ∀ o ∈ [(0 : Int), 1, 2, 3], pick5 z o ≤ 4 ∧ ∀ k, k < 5 → k ≤ pick5 z o → (fitB k z o = true → k = pick5 z o) ∧ (fitB k z o = false → k + 1 ≤ pick5 z o) := by decide +kernel
theorem pick_at {z o : Int} (hz : 0 ≤ z ∧ z ≤ 3) (ho : 0 ≤ o ∧ o ≤ 3) : pick5 z o ≤ 4 ∧ ∀ k, k < 5 → k ≤ pick5 z o → (fitB k z o = true → k = pick5 z o) ∧ (fitB k z o = false → k + 1 ≤ pick5 z o) := pick4 z (four hz) o (four ho)
theorem rul_at {w : World} (h : Rul w) (k : Nat) (hk : k < 5) : w.cell? ⟨0, k * 7, none⟩ = some (.int .i64 (rz k)) ∧ w.cell? ⟨0, k * 7 + 1, none⟩ = some (.int .i64 (ro k)) ∧ w.cell? ⟨0, k * 7 + 2, none⟩ = some (.int .i64 (rp k)) ∧ w.cell? ⟨0, k * 7 + 3, none⟩ = some (.int .i64 0) ∧
    w.cell? ⟨0, k * 7 + 4, none⟩ = some (.bool (rd k)) ∧ w.cell? ⟨0, k * 7 + 5, none⟩ = some (.bool (rc k)) ∧ w.cell? ⟨0, k * 7 + 6, none⟩ = some (.int .i64 (rv k)) := by
  match k, hk with
  | 0, _ => exact ⟨h _ _ rfl, h _ _ rfl, h _ _ rfl, h _ _ rfl, h _ _ rfl, h _ _ rfl, h _ _ rfl⟩
  | 1, _ => exact ⟨h _ _ rfl, h _ _ rfl, h _ _ rfl, h _ _ rfl, h _ _ rfl, h _ _ rfl, h _ _ rfl⟩
  | 2, _ => exact ⟨h _ _ rfl, h _ _ rfl, h _ _ rfl, h _ _ rfl, h _ _ rfl, h _ _ rfl, h _ _ rfl⟩
  | 3, _ => exact ⟨h _ _ rfl, h _ _ rfl, h _ _ rfl, h _ _ rfl, h _ _ rfl, h _ _ rfl, h _ _ rfl⟩
  | 4, _ => exact ⟨h _ _ rfl, h _ _ rfl, h _ _ rfl, h _ _ rfl, h _ _ rfl, h _ _ rfl, h _ _ rfl⟩

theorem r_in (k : Nat) (hk : k < 5) : (0 ≤ rz k ∧ rz k ≤ 3) ∧ (0 ≤ ro k ∧ ro k ≤ 3) := by
  match k, hk with
  | 0, _ => decide
  | 1, _ => decide
  | 2, _ => decide
  | 3, _ => decide
  | 4, _ => decide

set_option maxHeartbeats 400000 in
theorem ruleFor_any (z o : Int) (w : World) (hG : Rul w) (hz : 0 ≤ z ∧ z ≤ 3) (ho : 0 ≤ o ∧ o ≤ 3) :
    Calls Tryd.prog 30 #[.complex .f64 (fl z) (fl o)] w fun e w' => e = .returned (rule (pick5 z o)) ∧ Below w.heap.size w w' := by
  obtain ⟨hp, hpk⟩ := pick_at hz ho
  generalize hE : pick5 z o = E at hp hpk ⊢
  clear hE
  have hfit := fun k (hk : k < 5) w => fits_any (rz k) (ro k) (rp k) (rd k) (rc k) (rv k) z o w (r_in k hk).1 (r_in k hk).2 hz ho
  generalize fl z = z0 at hfit ⊢
  generalize fl o = o0 at hfit ⊢
  go_enter Tryd.func30, Tryd.ntmps30
  go_wp2
  have Bx := Blk.new w 47 #[.int .i64 0, .int .i64 0, .int .i64 0, .int .i64 0, .bool false, .bool false, .int .i64 0]
  have hB : Below w.heap.size w (w.alloc (.cells #[.int .i64 0, .int .i64 0, .int .i64 0, .int .i64 0, .bool false, .bool false, .int .i64 0] 47)) := by go_grown
  generalize w.alloc (.cells #[.int .i64 0, .int .i64 0, .int .i64 0, .int .i64 0, .bool false, .bool false, .int .i64 0] 47) = W at *
  go_loopw [3] (fun i wr => ∃ k : Nat, k < 5 ∧ k ≤ E ∧ i = .int .i64 k ∧ Below W.heap.size W wr) (fun i _ => 5 - (intOf i).toNat)
  case atStart => exact ⟨0, by omega, Nat.zero_le _, rfl, Below.refl _ _⟩
  case round =>
    obtain ⟨k, hk, hkE, rfl, hb⟩ := hrel
    replace hB := hB.trans (hb.mono hB.size)
    replace Bx := Bx.below hb
    obtain ⟨c0, c1, c2, c3, c4, c5, c6⟩ := rul_at (hG.below hB) k hk
    obtain ⟨hy, hn⟩ := hpk k hk hkE
    have HY : Hid (fitB k z o = true → k = E) := hy
    have HN : Hid (fitB k z o = false → k + 1 ≤ E) := hn
    have hf := hfit k hk wr
    rw [show (decide (rz k ≤ z) && decide (ro k ≤ o)) = fitB k z o from rfl] at hf
    clear hfit hpk hy hn
    unfold rulV at hf
    have HV : Hid (rule k = .agg #[.int .i64 (rz k), .int .i64 (ro k), .int .i64 (rp k), .int .i64 0, .bool (rd k), .bool (rc k), .int .i64 (rv k)]) := rfl
    generalize rz k = a0 at *
    generalize ro k = a1 at *
    generalize rp k = a2 at *
    generalize rd k = a4 at *
    generalize rc k = a5 at *
    generalize rv k = a6 at *
    go_wp2_with fail
    refine hf.mono ?_
    rintro e w2 ⟨rfl, hb2⟩
    have hz2 := World.block_lt_of_cell? wr ⟨0, k * 7, none⟩ c0
    dsimp only at hz2
    replace c0 := (hb2.cell (p := ⟨0, k * 7, none⟩) hz2).trans c0
    replace c1 := (hb2.cell (p := ⟨0, k * 7 + 1, none⟩) hz2).trans c1
    replace c2 := (hb2.cell (p := ⟨0, k * 7 + 2, none⟩) hz2).trans c2
    replace c3 := (hb2.cell (p := ⟨0, k * 7 + 3, none⟩) hz2).trans c3
    replace c4 := (hb2.cell (p := ⟨0, k * 7 + 4, none⟩) hz2).trans c4
    replace c5 := (hb2.cell (p := ⟨0, k * 7 + 5, none⟩) hz2).trans c5
    replace c6 := (hb2.cell (p := ⟨0, k * 7 + 6, none⟩) hz2).trans c6
    replace Bx := Bx.below hb2
    replace hB := hB.trans (hb2.mono hB.size)
    replace hb := hb.trans (hb2.mono hb.size)
    clear hf hb2 hz2
    by_cases hfb : fitB k z o = true
    · have hkE2 := HY.out hfb
      clear HY HN
      rw [hfb]
      have p0 := Bx.cell 0 _ rfl
      have p1 := Bx.cell 1 _ rfl
      have p2 := Bx.cell 2 _ rfl
      have p3 := Bx.cell 3 _ rfl
      have p4 := Bx.cell 4 _ rfl
      have p5 := Bx.cell 5 _ rfl
      have p6 := Bx.cell 6 _ rfl
      have f0 := Bx.frozen 0
      have f1 := Bx.frozen 1
      have f2 := Bx.frozen 2
      have f3 := Bx.frozen 3
      have f4 := Bx.frozen 4
      have f5 := Bx.frozen 5
      have f6 := Bx.frozen 6
      have hV : Hid (rule E = .agg #[.int .i64 a0, .int .i64 a1, .int .i64 a2, .int .i64 0, .bool a4, .bool a5, .int .i64 a6]) := by rw [← hkE2]; exact HV.out
      have hB7 := ((((((hB.setCell (p := ⟨w.heap.size, 0, none⟩) (Nat.le_refl _) (.int .i64 a0)).setCell (p := ⟨w.heap.size, 1, none⟩) (Nat.le_refl _) (.int .i64 a1)).setCell (p := ⟨w.heap.size, 2, none⟩) (Nat.le_refl _) (.int .i64 a2)).setCell (p := ⟨w.heap.size, 3, none⟩) (Nat.le_refl _) (.int .i64 0)).setCell (p := ⟨w.heap.size, 4, none⟩) (Nat.le_refl _) (.bool a4)).setCell (p := ⟨w.heap.size, 5, none⟩) (Nat.le_refl _) (.bool a5)).setCell (p := ⟨w.heap.size, 6, none⟩) (Nat.le_refl _) (.int .i64 a6)
      have HB : Hid (Below w.heap.size w _) := hB7
      clear Bx hB hb hB7 hkE2 HV
      go_wp2
      exact bodyPost_ret (v := .agg #[.int .i64 a0, .int .i64 a1, .int .i64 a2, .int .i64 0, .bool a4, .bool a5, .int .i64 a6]) (by simp [results, Tryd.results30, go_sem, p0, p1, p2, p3, p4, p5, p6]) rfl ⟨by rw [hV.out], HB.out⟩
    · have hfb' : fitB k z o = false := by simpa using hfb
      have hkE2 := HN.out hfb'
      clear HY HN hfb
      rw [hfb']
      clear c0 c1 c2 c3 c4 c5 c6 Bx hB
      go_wp2
      go_roundw
      case rel => exact ⟨k + 1, by omega, hkE2, by go_num, hb⟩
      case measure => simp [intOf]; omega

end Go.Proofs.YtonkbpnchcgmmaaDoor

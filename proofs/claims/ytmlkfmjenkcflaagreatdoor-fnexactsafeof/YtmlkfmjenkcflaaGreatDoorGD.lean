/- ChoiceFor of the model. -/
import Derived.Test.YtmlkfmjenkcflaaGreatDoorS5h
import Derived.Test.YtmlkfmjenkcflaaGreatDoorGC
import Derived.Laws.StructEq
namespace Go.Proofs.YtmlkfmjenkcflaaGreatDoor
open Go.RowKit
set_option linter.unusedVariables false
set_option maxRecDepth 100000
set_option linter.unusedSimpArgs false

set_option maxHeartbeats 1000000 in
theorem l5Both_any (a : Option Addr) (cap : Nat) (zs : List Int) (w : World) (h : Row .i64 w a zs) (hl : zs.length = 3) :
    Calls Tryz.prog 13 #[.slice a 3 cap] w fun e w' => e = .returned (.bool (both zs)) ∧ Below w.heap.size w w' := by
  have hc0 := l5Count_any a cap zs 7 0 w h hl (by decide)
  have hc1 := fun w h => l5Count_any a cap zs 7 1 w h hl (by decide)
  unfold both
  generalize cnt 7 zs 0 = z at *
  generalize cnt 7 zs 1 = o at *
  by_cases hz : 0 < z
  · have hd : decide (0 < z) = true := decide_eq_true hz
    rw [hd]
    go_enter Tryz.func13, Tryz.ntmps13
    go_wp2_with fail
    refine hc0.mono ?_
    rintro e w1 ⟨rfl, b1⟩
    have h1 := hc1 w1 (h.below b1)
    clear hc0 hc1
    go_wp2_with fail
    refine h1.mono ?_
    rintro e w2 ⟨rfl, b2⟩
    replace b2 := b1.trans (b2.mono b1.size)
    clear h1
    go_wp2
    go_ret
    exact ⟨by simp, b2⟩
  · have hd : decide (0 < z) = false := decide_eq_false hz
    rw [hd]
    clear hc1
    go_enter Tryz.func13, Tryz.ntmps13
    go_wp2_with fail
    refine hc0.mono ?_
    rintro e w1 ⟨rfl, b1⟩
    clear hc0
    go_wp2
    go_ret
    exact ⟨by simp, b1⟩

set_option maxHeartbeats 1000000 in
theorem l5Choice_any (a : Option Addr) (cap : Nat) (zs : List Int) (m c : Int) (w : World) (h : Row .i64 w a zs) (hl : zs.length = 3) (hm : inB m 0 7 = true) :
    Calls Tryz.prog 66 #[.slice a 3 cap, .int .i64 m, .int .i64 c] w fun e w' => e = .returned (.agg #[.int .i64 0, .bool (chD (cnt m zs 0) (cnt m zs 1)), .bool (chK (cnt m zs 0) (cnt m zs 1)), .int .i64 (chV (cnt m zs 0) (cnt m zs 1) c)]) ∧ Below w.heap.size w w' := by
  have hB : Below w.heap.size w (w.alloc (.cells #[.int .i64 0, .bool false, .bool false, .int .i64 0] 102)) := by go_grown
  have Bx := Blk.new w 102 #[.int .i64 0, .bool false, .bool false, .int .i64 0]
  have hi0 := cnt_in m zs 0
  have hi1 := cnt_in m zs 1
  have hc0 := l5Count_any a cap zs m 0 _ (h.below hB) hl hm
  have hc1 := fun w h => l5Count_any a cap zs m 1 w h hl hm
  generalize cnt m zs 0 = z at *
  generalize cnt m zs 1 = o at *
  obtain ⟨D, hD⟩ : ∃ D, chD z o = D := ⟨_, rfl⟩
  obtain ⟨K, hK⟩ : ∃ K, chK z o = K := ⟨_, rfl⟩
  obtain ⟨V, hV⟩ : ∃ V, chV z o c = V := ⟨_, rfl⟩
  rw [hD, hK, hV]
  unfold chD at hD
  unfold chK at hK
  unfold chV at hV
  by_cases hz : 0 < z
  · have HE : Hid (D = decide (2 ≤ z) ∧ K = false ∧ V = 0) := by
      rw [if_pos hz] at hD hV
      rw [decide_eq_true hz] at hK
      exact ⟨hD.symm, hK.symm, hV.symm⟩
    clear hD hK hV hc1
    go_enter Tryz.func66, Tryz.ntmps66
    go_wp2
    refine wp_loop_rounds 1 ?_
    rw [rounds_succ]
    go_wp2_with fail
    generalize w.alloc (.cells #[.int .i64 0, .bool false, .bool false, .int .i64 0] 102) = W at *
    refine hc0.mono ?_
    rintro e w1 ⟨rfl, hb⟩
    replace Bx := Bx.below hb
    replace hB := hB.trans (hb.mono hB.size)
    obtain ⟨p0, p1, p2, p3⟩ := Bx.cel4
    obtain ⟨f0, f1, f2, f3⟩ := Bx.frz4
    clear hb Bx hc0
    go_wp2
    exact bodyPost_ret (v := .agg #[.int .i64 0, .bool (decide (2 ≤ z)), .bool false, .int .i64 0]) (by simp [results, Tryz.results66, go_sem, p0, p1, p2, p3]) rfl ⟨by rw [HE.out.1, HE.out.2.1, HE.out.2.2], ((((hB.setCell (p := ⟨w.heap.size, 0, none⟩) (Nat.le_refl _) _).setCell (p := ⟨w.heap.size, 1, none⟩) (Nat.le_refl _) _).setCell (p := ⟨w.heap.size, 2, none⟩) (Nat.le_refl _) _).setCell (p := ⟨w.heap.size, 3, none⟩) (Nat.le_refl _) _)⟩
  · have HE : Hid (D = decide (2 ≤ o) ∧ K = !decide (0 < o) ∧ V = if 0 < o then 1 else c) := by
      rw [if_neg hz] at hD hV
      rw [decide_eq_false hz] at hK
      exact ⟨hD.symm, by simpa using hK.symm, hV.symm⟩
    clear hD hK hV
    go_enter Tryz.func66, Tryz.ntmps66
    go_wp2
    refine wp_loop_rounds 3 ?_
    rw [rounds_succ]
    go_wp2_with fail
    generalize w.alloc (.cells #[.int .i64 0, .bool false, .bool false, .int .i64 0] 102) = W at *
    refine hc0.mono ?_
    rintro e w1 ⟨rfl, hb⟩
    replace Bx := Bx.below hb
    replace hB := hB.trans (hb.mono hB.size)
    have h1 := hc1 w1 (h.below hB)
    clear hb hc0 hc1
    go_wp2_with fail
    rw [rounds_succ]
    go_wp2_with fail
    refine h1.mono ?_
    rintro e w2 ⟨rfl, hb⟩
    replace Bx := Bx.below hb
    replace hB := hB.trans (hb.mono hB.size)
    obtain ⟨p0, p1, p2, p3⟩ := Bx.cel4
    obtain ⟨f0, f1, f2, f3⟩ := Bx.frz4
    clear hb Bx h1
    by_cases ho : 0 < o
    · have HE2 : Hid (D = decide (2 ≤ o) ∧ K = false ∧ V = 1) := by
        obtain ⟨x, y, z⟩ := HE.out
        rw [if_pos ho] at z
        rw [decide_eq_true ho] at y
        exact ⟨x, y, z⟩
      clear HE
      go_wp2
      exact bodyPost_ret (v := .agg #[.int .i64 0, .bool (decide (2 ≤ o)), .bool false, .int .i64 1]) (by simp [results, Tryz.results66, go_sem, p0, p1, p2, p3]) rfl ⟨by rw [HE2.out.1, HE2.out.2.1, HE2.out.2.2], ((((hB.setCell (p := ⟨w.heap.size, 0, none⟩) (Nat.le_refl _) _).setCell (p := ⟨w.heap.size, 1, none⟩) (Nat.le_refl _) _).setCell (p := ⟨w.heap.size, 2, none⟩) (Nat.le_refl _) _).setCell (p := ⟨w.heap.size, 3, none⟩) (Nat.le_refl _) _)⟩
    · have HE2 : Hid (D = false ∧ K = true ∧ V = c) := by
        obtain ⟨x, y, z⟩ := HE.out
        rw [if_neg ho] at z
        rw [decide_eq_false ho] at y
        rw [decide_eq_false (by omega)] at x
        exact ⟨x, y, z⟩
      clear HE
      go_wp2
      rw [rounds_succ]
      go_wp2
      exact bodyPost_ret (v := .agg #[.int .i64 0, .bool false, .bool true, .int .i64 c]) (by simp [results, Tryz.results66, go_sem, p0, p1, p2, p3]) rfl ⟨by rw [HE2.out.1, HE2.out.2.1, HE2.out.2.2], ((((hB.setCell (p := ⟨w.heap.size, 0, none⟩) (Nat.le_refl _) _).setCell (p := ⟨w.heap.size, 1, none⟩) (Nat.le_refl _) _).setCell (p := ⟨w.heap.size, 2, none⟩) (Nat.le_refl _) _).setCell (p := ⟨w.heap.size, 3, none⟩) (Nat.le_refl _) _)⟩

set_option maxHeartbeats 1000000 in
theorem specChoice_any (a : Option Addr) (cap : Nat) (zs : List Int) (m c : Int) (w : World) (h : Row .i64 w a zs) (hm : zs.length ≤ 9223372036854775807) :
    Calls Tryz.prog 55 #[.slice a zs.length cap, .int .i64 m, .int .i64 c] w fun e w' => e = .returned (.agg #[.int .i64 (chC zs m c), .bool (cfD zs m c), .bool (cfK zs m c), .int .i64 (cfV zs m c)]) ∧ Below w.heap.size w w' := by
  obtain ⟨C, hC⟩ : ∃ C, chC zs m c = C := ⟨_, rfl⟩
  obtain ⟨D, hD⟩ : ∃ D, cfD zs m c = D := ⟨_, rfl⟩
  obtain ⟨K, hK⟩ : ∃ K, cfK zs m c = K := ⟨_, rfl⟩
  obtain ⟨V, hV⟩ : ∃ V, cfV zs m c = V := ⟨_, rfl⟩
  rw [hC, hD, hK, hV]
  have HN : Hid (∀ x, chC zs m c = x → x ≠ 0 → C = x ∧ D = false ∧ K = false ∧ V = 0) := by
    intro x hx hn
    refine ⟨hC.symm.trans hx, ?_, ?_, ?_⟩
    · rw [← hD]; simp [cfD, hx, hn]
    · rw [← hK]; simp [cfK, hx, hn]
    · rw [← hV]; simp [cfV, hx, hn]
  have HY : Hid (chC zs m c = 0 → C = 0 ∧ D = chD (cnt m zs 0) (cnt m zs 1) ∧ K = chK (cnt m zs 0) (cnt m zs 1) ∧ V = chV (cnt m zs 0) (cnt m zs 1) c) := by
    intro hx
    refine ⟨hC.symm.trans hx, ?_, ?_, ?_⟩
    · rw [← hD]; simp [cfD, hx]
    · rw [← hK]; simp [cfK, hx]
    · rw [← hV]; simp [cfV, hx]
  clear hC hD hK hV
  have hB : Below w.heap.size w (w.alloc (.cells #[.int .i64 0, .bool false, .bool false, .int .i64 0] 102)) := by go_grown
  have Bx := Blk.new w 102 #[.int .i64 0, .bool false, .bool false, .int .i64 0]
  have hv := l5Votes_any a cap zs 2 _ (h.below hB) hm
  go_enter Tryz.func55, Tryz.ntmps55
  go_wp2_with fail
  generalize w.alloc (.cells #[.int .i64 0, .bool false, .bool false, .int .i64 0] 102) = W at *
  refine hv.mono ?_
  rintro e w1 ⟨rfl, hb⟩
  replace Bx := Bx.below hb
  replace hB := hB.trans (hb.mono hB.size)
  clear hv hb
  by_cases h0 : vf zs 2 = 0
  · have hl := vf_len h0
    rw [h0, hl]
    by_cases hc01 : inB c 0 1 = true
    · have hbo := l5Both_any a cap zs w1 (h.below hB) hl
      go_wp2_with fail
      refine (l1In_any _ _ _ _).mono ?_
      rintro e w' ⟨rfl, hw⟩
      replace hw := hw.symm
      subst hw
      rw [hc01]
      go_wp2_with fail
      refine hbo.mono ?_
      rintro e w2 ⟨rfl, hb⟩
      replace Bx := Bx.below hb
      replace hB := hB.trans (hb.mono hB.size)
      clear hb hbo
      by_cases hb2 : both zs = true
      · have HE := HN.out 1 (by simp [chC, h0, hc01, hb2]) (by omega)
        have HE : Hid _ := HE
        obtain ⟨p0, p1, p2, p3⟩ := Bx.cel4
        obtain ⟨f0, f1, f2, f3⟩ := Bx.frz4
        rw [hb2]
        clear HN HY Bx h0 hl
        go_wp2
        exact bodyPost_ret (v := .agg #[.int .i64 1, .bool false, .bool false, .int .i64 0]) (by simp [results, Tryz.results55, go_sem, p0, p1, p2, p3]) rfl ⟨by rw [HE.out.1, HE.out.2.1, HE.out.2.2.1, HE.out.2.2.2], ((((hB.setCell (p := ⟨w.heap.size, 0, none⟩) (Nat.le_refl _) _).setCell (p := ⟨w.heap.size, 1, none⟩) (Nat.le_refl _) _).setCell (p := ⟨w.heap.size, 2, none⟩) (Nat.le_refl _) _).setCell (p := ⟨w.heap.size, 3, none⟩) (Nat.le_refl _) _)⟩
      · have hb2' : both zs = false := by simpa using hb2
        have hh := l5Heard_any a cap zs m w2 (h.below hB) hl
        rw [hb2']
        go_wp2_with fail
        refine hh.mono ?_
        rintro e w3 ⟨rfl, hb⟩
        replace Bx := Bx.below hb
        replace hB := hB.trans (hb.mono hB.size)
        clear hb hh
        by_cases h1 : heard zs m = true
        · have HE := HY.out (by simp [chC, h0, hc01, hb2', h1])
          have HE : Hid _ := HE
          have hch := l5Choice_any a cap zs m c w3 (h.below hB) hl (heard_in h1)
          rw [h1]
          generalize chD (cnt m zs 0) (cnt m zs 1) = D1 at *
          generalize chK (cnt m zs 0) (cnt m zs 1) = K1 at *
          generalize chV (cnt m zs 0) (cnt m zs 1) c = V1 at *
          go_wp2_with fail
          refine hch.mono ?_
          rintro e w4 ⟨rfl, hb⟩
          replace Bx := Bx.below hb
          replace hB := hB.trans (hb.mono hB.size)
          obtain ⟨p0, p1, p2, p3⟩ := Bx.cel4
          obtain ⟨f0, f1, f2, f3⟩ := Bx.frz4
          clear hb hch HN HY Bx h0 hl
          go_wp2
          exact bodyPost_ret (v := .agg #[.int .i64 0, .bool D1, .bool K1, .int .i64 V1]) (by simp [results, Tryz.results55, go_sem, p0, p1, p2, p3]) rfl ⟨by rw [HE.out.1, HE.out.2.1, HE.out.2.2.1, HE.out.2.2.2], ((((hB.setCell (p := ⟨w.heap.size, 0, none⟩) (Nat.le_refl _) _).setCell (p := ⟨w.heap.size, 1, none⟩) (Nat.le_refl _) _).setCell (p := ⟨w.heap.size, 2, none⟩) (Nat.le_refl _) _).setCell (p := ⟨w.heap.size, 3, none⟩) (Nat.le_refl _) _)⟩
        · have h1' : heard zs m = false := by simpa using h1
          have HE := HN.out 10 (by simp [chC, h0, hc01, hb2', h1']) (by omega)
          have HE : Hid _ := HE
          rw [h1']
          obtain ⟨p0, p1, p2, p3⟩ := Bx.cel4
          obtain ⟨f0, f1, f2, f3⟩ := Bx.frz4
          clear HN HY Bx h0 hl
          go_wp2
          exact bodyPost_ret (v := .agg #[.int .i64 10, .bool false, .bool false, .int .i64 0]) (by simp [results, Tryz.results55, go_sem, p0, p1, p2, p3]) rfl ⟨by rw [HE.out.1, HE.out.2.1, HE.out.2.2.1, HE.out.2.2.2], ((((hB.setCell (p := ⟨w.heap.size, 0, none⟩) (Nat.le_refl _) _).setCell (p := ⟨w.heap.size, 1, none⟩) (Nat.le_refl _) _).setCell (p := ⟨w.heap.size, 2, none⟩) (Nat.le_refl _) _).setCell (p := ⟨w.heap.size, 3, none⟩) (Nat.le_refl _) _)⟩
    · have hc01' : inB c 0 1 = false := by simpa using hc01
      have HE := HN.out 3 (by simp [chC, h0, hc01']) (by omega)
      have HE : Hid _ := HE
      obtain ⟨p0, p1, p2, p3⟩ := Bx.cel4
      obtain ⟨f0, f1, f2, f3⟩ := Bx.frz4
      clear HN HY Bx h0 hl
      go_wp2_with (go_at_call 53; refine (l1In_any _ _ _ _).mono ?_; rintro e w' ⟨rfl, hw⟩; replace hw := hw.symm; subst hw)
      exact bodyPost_ret (v := .agg #[.int .i64 3, .bool false, .bool false, .int .i64 0]) (by simp [results, Tryz.results55, go_sem, p0, p1, p2, p3]) rfl ⟨by rw [HE.out.1, HE.out.2.1, HE.out.2.2.1, HE.out.2.2.2], ((((hB.setCell (p := ⟨w.heap.size, 0, none⟩) (Nat.le_refl _) _).setCell (p := ⟨w.heap.size, 1, none⟩) (Nat.le_refl _) _).setCell (p := ⟨w.heap.size, 2, none⟩) (Nat.le_refl _) _).setCell (p := ⟨w.heap.size, 3, none⟩) (Nat.le_refl _) _)⟩
  · have HE := HN.out (vf zs 2) (by simp [chC, h0]) h0
    have HE : Hid _ := HE
    have h0' : (vf zs 2 != 0) = true := by simpa using h0
    obtain ⟨p0, p1, p2, p3⟩ := Bx.cel4
    obtain ⟨f0, f1, f2, f3⟩ := Bx.frz4
    clear HN HY Bx h0
    generalize vf zs 2 = x at *
    go_wp2
    exact bodyPost_ret (v := .agg #[.int .i64 x, .bool false, .bool false, .int .i64 0]) (by simp [results, Tryz.results55, go_sem, p0, p1, p2, p3]) rfl ⟨by rw [HE.out.1, HE.out.2.1, HE.out.2.2.1, HE.out.2.2.2], ((((hB.setCell (p := ⟨w.heap.size, 0, none⟩) (Nat.le_refl _) _).setCell (p := ⟨w.heap.size, 1, none⟩) (Nat.le_refl _) _).setCell (p := ⟨w.heap.size, 2, none⟩) (Nat.le_refl _) _).setCell (p := ⟨w.heap.size, 3, none⟩) (Nat.le_refl _) _)⟩

end Go.Proofs.YtmlkfmjenkcflaaGreatDoor

/- MayPropose and MayReport, of the program and of its model. -/
namespace Go.Proofs.YtmlkfmjenkcflaaGreatDoor
open Go.RowKit
set_option linter.unusedVariables false
set_option maxRecDepth 100000
set_option linter.unusedSimpArgs false

/-- Does one of the masks 0 to n - 1 say so? -/
def anyB (f : Nat → Bool) (n : Nat) : Bool := (List.range n).any f
theorem any_step (f : Nat → Bool) (k : Nat) (h : anyB f k = false) (hk : f k = false) : anyB f (k + 1) = false := by
  unfold anyB at *
  rw [List.range_succ, List.any_append, h, List.any_cons, hk]
  rfl
theorem any_yes (f : Nat → Bool) (k : Nat) (hk : k < 8) (h : f k = true) : anyB f 8 = true := by
  unfold anyB
  rw [List.any_eq_true]
  exact ⟨k, List.mem_range.2 hk, h⟩
def pB (zs : List Int) (v : Int) (k : Nat) : Bool := (pfC zs k == 0) && (pfV zs k == v)
def mayP (zs : List Int) (v : Int) : Bool := anyB (pB zs v) 8
def rB (zs : List Int) (v : Int) (k : Nat) : Bool := (chC zs k v == 0) && (cfV zs k v == v)
def mayR (zs : List Int) (v : Int) : Bool := anyB (rB zs v) 8
theorem any_none (f : Nat → Bool) (h : ∀ k, f k = false) (n : Nat) : anyB f n = false := by
  unfold anyB
  rw [List.any_eq_false]
  intro x _
  rw [h x]
  decide
theorem mayR_no (zs : List Int) (v : Int) (h : inB v 0 1 = false) : mayR zs v = false := by
  refine any_none _ (fun k => ?_) 8
  have hc : (chC zs k v == 0) = false := by
    rw [beq_eq_false_iff_ne]
    unfold chC
    rw [h]
    split
    · simp
    · assumption
  simp only [rB, hc, Bool.false_and]

theorem eqIR_run (x0 x1 y0 y1 : Int) (w : World) : (binOp .eql 99 (.agg #[.int .i64 x0, .int .i64 x1]) (.agg #[.int .i64 y0, .int .i64 y1])).run Tryz.prog w = .ok (.bool ((x0 == y0) && (x1 == y1))) w := by
  rw [run_eql_struct, run_equalIn_struct (P := Tryz.prog) w 9999 99 _ _ (by kernel_rfl) (by kernel_rfl)]
  have c1 : Tryz.prog.cellsOf 2 = 1 := by kernel_rfl
  cases h0 : (x0 == y0) <;> cases h1 : (x1 == y1) <;> simp [Program.fieldsOf, Tryz.underlying99, Op.eqFields, go_sem, Tryz.underlying2, h0, h1, c1]

set_option maxHeartbeats 2000000 in
theorem implMayP_any (a : Option Addr) (cap : Nat) (zs : List Int) (v : Int) (w : World) (hG : Rul w) (h : Row .i64 w a zs) (hm : zs.length ≤ 9223372036854775807) :
    Calls Tryz.prog 75 #[.slice a zs.length cap, .int .i64 v] w fun e w' => e = .returned (.bool (mayP zs v)) ∧ Below w.heap.size w w' := by
  have HT : Hid (∀ k, k < 8 → pB zs v k = true → mayP zs v = true) := fun k hk h => any_yes _ k hk h
  have HF : Hid (anyB (pB zs v) 8 = false → mayP zs v = false) := fun h => h
  generalize mayP zs v = E at HT HF ⊢
  go_enter Tryz.func75, Tryz.ntmps75
  go_wp2
  go_loopw [6] (fun i wr => ∃ k : Nat, k ≤ 8 ∧ i = .int .i64 k ∧ anyB (pB zs v) k = false ∧ Below w.heap.size w wr) (fun i _ => 8 - (intOf i).toNat)
  case atStart => exact ⟨0, Nat.zero_le _, rfl, rfl, Below.refl _ _⟩
  case round =>
    obtain ⟨k, hk, rfl, hany, hb⟩ := hrel
    by_cases hlt : k < 8
    · have hc := implProp_any a cap zs k wr (hG.below hb) (h.below hb) hm
      have HS : Hid (pB zs v k = false → anyB (pB zs v) (k + 1) = false) := fun h => any_step _ k hany h
      have HY : Hid (pB zs v k = true → E = true) := fun h => HT.out k hlt h
      have hfk : pB zs v k = ((pfC zs k == 0) && (pfV zs k == v)) := rfl
      rw [hfk] at HS HY
      clear HT HF hany hfk
      generalize pfC zs k = C at *
      generalize pfV zs k = V at *
      go_wp2_with fail
      refine hc.mono ?_
      rintro e w1 ⟨rfl, hb1⟩
      replace hb := hb.trans (hb1.mono hb.size)
      clear hc hb1
      by_cases h1 : C = 0
      · subst h1
        by_cases h2 : (V == v) = true
        · have HE : Hid (E = true) := HY.out (by rw [h2]; rfl)
          clear HS HY
          go_wp2
          go_ret
          exact ⟨by rw [HE.out]; rfl, by repeat first | exact hb | refine Below.alloc ?_ (by have := hb.size; simp; omega) _⟩
        · have h2' : (V == v) = false := by simpa using h2
          have R : Hid (anyB _ (k + 1) = false) := HS.out (by rw [h2']; rfl)
          clear HS HY h2
          go_wp2
          go_roundw
          case rel => exact ⟨k + 1, by omega, by go_num, R.out, by repeat first | exact hb | refine Below.alloc ?_ (by have := hb.size; simp; omega) _⟩
          case measure => simp [intOf]; omega
      · have h1' : (C == 0) = false := by simpa using h1
        have R : Hid (anyB _ (k + 1) = false) := HS.out (by rw [h1']; rfl)
        clear HS HY h1
        go_wp2
        go_roundw
        case rel => exact ⟨k + 1, by omega, by go_num, R.out, by repeat first | exact hb | refine Below.alloc ?_ (by have := hb.size; simp; omega) _⟩
        case measure => simp [intOf]; omega
    · have hkl : k = 8 := by omega
      subst hkl
      have HE : Hid (E = false) := HF.out hany
      clear HT HF hany
      go_wp2
      go_ret
      exact ⟨by rw [HE.out]; rfl, hb⟩

set_option maxHeartbeats 2000000 in
theorem specMayP_any (a : Option Addr) (cap : Nat) (zs : List Int) (v : Int) (w : World) (h : Row .i64 w a zs) (hm : zs.length ≤ 9223372036854775807) :
    Calls Tryz.prog 41 #[.slice a zs.length cap, .int .i64 v] w fun e w' => e = .returned (.bool (mayP zs v)) ∧ Below w.heap.size w w' := by
  have HT : Hid (∀ k, k < 8 → pB zs v k = true → mayP zs v = true) := fun k hk h => any_yes _ k hk h
  have HF : Hid (anyB (pB zs v) 8 = false → mayP zs v = false) := fun h => h
  generalize mayP zs v = E at HT HF ⊢
  go_enter Tryz.func41, Tryz.ntmps41
  go_wp2
  go_loopw [5] (fun i wr => ∃ k : Nat, k ≤ 8 ∧ i = .int .i64 k ∧ anyB (pB zs v) k = false ∧ Below w.heap.size w wr) (fun i _ => 8 - (intOf i).toNat)
  case atStart => exact ⟨0, Nat.zero_le _, rfl, rfl, Below.refl _ _⟩
  case round =>
    obtain ⟨k, hk, rfl, hany, hb⟩ := hrel
    by_cases hlt : k < 8
    · have hc := specProp_any a cap zs k wr (h.below hb) hm
      have HS : Hid (pB zs v k = false → anyB (pB zs v) (k + 1) = false) := fun h => any_step _ k hany h
      have HY : Hid (pB zs v k = true → E = true) := fun h => HT.out k hlt h
      have hfk : pB zs v k = ((pfC zs k == 0) && (pfV zs k == v)) := rfl
      rw [hfk] at HS HY
      clear HT HF hany hfk
      generalize pfC zs k = C at *
      generalize pfV zs k = V at *
      go_wp2_with fail
      refine hc.mono ?_
      rintro e w1 ⟨rfl, hb1⟩
      replace hb := hb.trans (hb1.mono hb.size)
      clear hc hb1
      by_cases h1 : C = 0
      · subst h1
        by_cases h2 : (V == v) = true
        · have HE : Hid (E = true) := HY.out (by rw [h2]; rfl)
          clear HS HY
          go_wp2
          go_ret
          exact ⟨by rw [HE.out]; rfl, by repeat first | exact hb | refine Below.alloc ?_ (by have := hb.size; simp; omega) _⟩
        · have h2' : (V == v) = false := by simpa using h2
          have R : Hid (anyB _ (k + 1) = false) := HS.out (by rw [h2']; rfl)
          clear HS HY h2
          go_wp2
          go_roundw
          case rel => exact ⟨k + 1, by omega, by go_num, R.out, by repeat first | exact hb | refine Below.alloc ?_ (by have := hb.size; simp; omega) _⟩
          case measure => simp [intOf]; omega
      · have h1' : (C == 0) = false := by simpa using h1
        have R : Hid (anyB _ (k + 1) = false) := HS.out (by rw [h1']; rfl)
        clear HS HY h1
        go_wp2
        go_roundw
        case rel => exact ⟨k + 1, by omega, by go_num, R.out, by repeat first | exact hb | refine Below.alloc ?_ (by have := hb.size; simp; omega) _⟩
        case measure => simp [intOf]; omega
    · have hkl : k = 8 := by omega
      subst hkl
      have HE : Hid (E = false) := HF.out hany
      clear HT HF hany
      go_wp2
      go_ret
      exact ⟨by rw [HE.out]; rfl, hb⟩

set_option maxHeartbeats 2000000 in
theorem implMayR_any (a : Option Addr) (cap : Nat) (zs : List Int) (v : Int) (w : World) (hG : Rul w) (h : Row .i64 w a zs) (hm : zs.length ≤ 9223372036854775807) :
    Calls Tryz.prog 72 #[.slice a zs.length cap, .int .i64 v] w fun e w' => e = .returned (.bool (mayR zs v)) ∧ Below w.heap.size w w' := by
  have HT : Hid (∀ k, k < 8 → rB zs v k = true → mayR zs v = true) := fun k hk h => any_yes _ k hk h
  have HF : Hid (anyB (rB zs v) 8 = false → mayR zs v = false) := fun h => h
  generalize mayR zs v = E at HT HF ⊢
  go_enter Tryz.func72, Tryz.ntmps72
  go_wp2
  go_loopw [7] (fun i wr => ∃ k : Nat, k ≤ 8 ∧ i = .int .i64 k ∧ anyB (rB zs v) k = false ∧ Below w.heap.size w wr) (fun i _ => 8 - (intOf i).toNat)
  case atStart => exact ⟨0, Nat.zero_le _, rfl, rfl, Below.refl _ _⟩
  case round =>
    obtain ⟨k, hk, rfl, hany, hb⟩ := hrel
    by_cases hlt : k < 8
    · have hc := implChoice_any a cap zs k v wr (hG.below hb) (h.below hb) hm
      have HS : Hid (rB zs v k = false → anyB (rB zs v) (k + 1) = false) := fun h => any_step _ k hany h
      have HY : Hid (rB zs v k = true → E = true) := fun h => HT.out k hlt h
      have hfk : rB zs v k = ((chC zs k v == 0) && (cfV zs k v == v)) := rfl
      rw [hfk] at HS HY
      clear HT HF hany hfk
      generalize chC zs k v = C at *
      generalize cfD zs k v = D at *
      generalize cfK zs k v = K at *
      generalize cfV zs k v = V at *
      go_wp2_with fail
      refine hc.mono ?_
      rintro e w1 ⟨rfl, hb1⟩
      replace hb := hb.trans (hb1.mono hb.size)
      clear hc hb1
      by_cases h1 : C = 0
      · subst h1
        by_cases h2 : (V == v) = true
        · have HE : Hid (E = true) := HY.out (by rw [h2]; rfl)
          clear HS HY
          go_wp2
          go_ret
          exact ⟨by rw [HE.out]; rfl, by repeat first | exact hb | refine Below.alloc ?_ (by have := hb.size; simp; omega) _⟩
        · have h2' : (V == v) = false := by simpa using h2
          have R : Hid (anyB _ (k + 1) = false) := HS.out (by rw [h2']; rfl)
          clear HS HY h2
          go_wp2
          go_roundw
          case rel => exact ⟨k + 1, by omega, by go_num, R.out, by repeat first | exact hb | refine Below.alloc ?_ (by have := hb.size; simp; omega) _⟩
          case measure => simp [intOf]; omega
      · have h1' : (C == 0) = false := by simpa using h1
        have R : Hid (anyB _ (k + 1) = false) := HS.out (by rw [h1']; rfl)
        clear HS HY h1
        go_wp2
        go_roundw
        case rel => exact ⟨k + 1, by omega, by go_num, R.out, by repeat first | exact hb | refine Below.alloc ?_ (by have := hb.size; simp; omega) _⟩
        case measure => simp [intOf]; omega
    · have hkl : k = 8 := by omega
      subst hkl
      have HE : Hid (E = false) := HF.out hany
      clear HT HF hany
      go_wp2
      go_ret
      exact ⟨by rw [HE.out]; rfl, hb⟩

set_option maxHeartbeats 2000000 in
theorem specMayR_any (a : Option Addr) (cap : Nat) (zs : List Int) (v : Int) (w : World) (h : Row .i64 w a zs) (hm : zs.length ≤ 9223372036854775807) :
    Calls Tryz.prog 42 #[.slice a zs.length cap, .int .i64 v] w fun e w' => e = .returned (.bool (mayR zs v)) ∧ Below w.heap.size w w' := by
  have HT : Hid (∀ k, k < 8 → rB zs v k = true → mayR zs v = true) := fun k hk h => any_yes _ k hk h
  have HF : Hid (anyB (rB zs v) 8 = false → mayR zs v = false) := fun h => h
  by_cases hin : inB v 0 1 = true
  case neg =>
    have hin' : inB v 0 1 = false := by simpa using hin
    rw [mayR_no zs v hin']
    clear hin HT HF
    go_enter Tryz.func42, Tryz.ntmps42
    go_wp2_with (go_at_call 53; refine (l1In_any _ _ _ _).mono ?_; rintro e w' ⟨rfl, rfl⟩)
    go_ret
    exact ⟨rfl, Below.refl _ _⟩
  generalize mayR zs v = E at HT HF ⊢
  go_enter Tryz.func42, Tryz.ntmps42
  go_wp2_with (go_at_call 53; refine (l1In_any _ _ _ _).mono ?_; rintro e w' ⟨rfl, hw⟩; replace hw := hw.symm; subst hw)
  go_loopw [5] (fun i wr => ∃ k : Nat, k ≤ 8 ∧ i = .int .i64 k ∧ anyB (rB zs v) k = false ∧ Below w.heap.size w wr) (fun i _ => 8 - (intOf i).toNat)
  case atStart => exact ⟨0, Nat.zero_le _, rfl, rfl, Below.refl _ _⟩
  case round =>
    obtain ⟨k, hk, rfl, hany, hb⟩ := hrel
    by_cases hlt : k < 8
    · have hc := specChoice_any a cap zs k v wr (h.below hb) hm
      have HS : Hid (rB zs v k = false → anyB (rB zs v) (k + 1) = false) := fun h => any_step _ k hany h
      have HY : Hid (rB zs v k = true → E = true) := fun h => HT.out k hlt h
      have hfk : rB zs v k = ((chC zs k v == 0) && (cfV zs k v == v)) := rfl
      rw [hfk] at HS HY
      clear HT HF hany hfk
      generalize chC zs k v = C at *
      generalize cfD zs k v = D at *
      generalize cfK zs k v = K at *
      generalize cfV zs k v = V at *
      go_wp2_with fail
      refine hc.mono ?_
      rintro e w1 ⟨rfl, hb1⟩
      replace hb := hb.trans (hb1.mono hb.size)
      clear hc hb1
      by_cases h1 : C = 0
      · subst h1
        by_cases h2 : (V == v) = true
        · have HE : Hid (E = true) := HY.out (by rw [h2]; rfl)
          clear HS HY
          go_wp2
          go_ret
          exact ⟨by rw [HE.out]; rfl, by repeat first | exact hb | refine Below.alloc ?_ (by have := hb.size; simp; omega) _⟩
        · have h2' : (V == v) = false := by simpa using h2
          have R : Hid (anyB _ (k + 1) = false) := HS.out (by rw [h2']; rfl)
          clear HS HY h2
          go_wp2
          go_roundw
          case rel => exact ⟨k + 1, by omega, by go_num, R.out, by repeat first | exact hb | refine Below.alloc ?_ (by have := hb.size; simp; omega) _⟩
          case measure => simp [intOf]; omega
      · have h1' : (C == 0) = false := by simpa using h1
        have R : Hid (anyB _ (k + 1) = false) := HS.out (by rw [h1']; rfl)
        clear HS HY h1
        go_wp2
        go_roundw
        case rel => exact ⟨k + 1, by omega, by go_num, R.out, by repeat first | exact hb | refine Below.alloc ?_ (by have := hb.size; simp; omega) _⟩
        case measure => simp [intOf]; omega
    · have hkl : k = 8 := by omega
      subst hkl
      have HE : Hid (E = false) := HF.out hany
      clear HT HF hany
      go_wp2
      go_ret
      exact ⟨by rw [HE.out]; rfl, hb⟩

end Go.Proofs.YtmlkfmjenkcflaaGreatDoor

/- What the rules promise, in plain words: 0 and 1 are not both proposed; what is proposed may be; what a quorum proposed is what everybody goes on with. -/
namespace Go.Proofs.YtmlkfmjenkcflaaGreatDoor
open Go.RowKit
set_option linter.unusedVariables false
set_option maxRecDepth 100000
set_option linter.unusedSimpArgs false

abbrev v4 : List Int := [0, 1, 2, 3]
abbrev m8 : List Int := [0, 1, 2, 3, 4, 5, 6, 7]

theorem vOk_mem {most x : Int} (hm : most = 1 ∨ most = 2) (h : vOk most x = true) : x ∈ v4 := by
  unfold vOk inB at h
  rw [Bool.or_eq_true, decide_eq_true_eq, beq_iff_eq] at h
  exact four (by omega)
theorem vf_three {zs : List Int} {most : Int} (hm : most = 1 ∨ most = 2) (h : vf zs most = 0) : ∃ x ∈ v4, ∃ y ∈ v4, ∃ z ∈ v4, zs = [x, y, z] := by
  have hl := vf_len h
  obtain ⟨x, y, z, rfl⟩ := three hl
  unfold vf at h
  rw [if_pos hl] at h
  have ha : [x, y, z].all (vOk most) = true := by
    by_cases hx : [x, y, z].all (vOk most) = true
    · exact hx
    · rw [if_neg hx] at h
      simp at h
  simp only [List.all_cons, List.all_nil, Bool.and_true, Bool.and_eq_true] at ha
  exact ⟨x, vOk_mem hm ha.1, y, vOk_mem hm ha.2.1, z, vOk_mem hm ha.2.2, rfl⟩

theorem mask_nat {m : Int} (h : inB m 0 7 = true) : ∃ k : Nat, k < 8 ∧ m = (k : Int) := by
  have := of_decide_eq_true h
  exact ⟨m.toNat, by omega, by omega⟩
theorem pf_zero {zs : List Int} {m : Int} (h : pfC zs m = 0) : vf zs 1 = 0 ∧ heard zs m = true := by
  unfold pfC at h
  by_cases h0 : vf zs 1 = 0
  · rw [if_pos h0] at h
    by_cases h1 : heard zs m = true
    · exact ⟨h0, h1⟩
    · rw [if_neg h1] at h
      simp at h
  · rw [if_neg h0] at h
    exact absurd h h0
theorem ch_zero {zs : List Int} {m c : Int} (h : chC zs m c = 0) : vf zs 2 = 0 ∧ inB c 0 1 = true ∧ both zs = false ∧ heard zs m = true := by
  unfold chC at h
  by_cases h0 : vf zs 2 = 0
  · rw [if_pos h0] at h
    by_cases hc : inB c 0 1 = true
    · rw [if_pos hc] at h
      by_cases hb : both zs = true
      · rw [if_pos hb] at h
        simp at h
      · rw [if_neg hb] at h
        by_cases h1 : heard zs m = true
        · exact ⟨h0, hc, by simpa using hb, h1⟩
        · rw [if_neg h1] at h
          simp at h
    · rw [if_neg hc] at h
      simp at h
  · rw [if_neg h0] at h
    exact absurd h h0
theorem ch_mk {zs : List Int} {m c : Int} (h0 : vf zs 2 = 0) (hc : inB c 0 1 = true) (hb : both zs = false) (h1 : heard zs m = true) : chC zs m c = 0 := by
  simp [chC, h0, hc, hb, h1]

/-- What is proposed may be proposed. -/
theorem mayP_own {zs : List Int} {m : Int} (h : pfC zs m = 0) : mayP zs (pfV zs m) = true := by
  obtain ⟨h0, h1⟩ := pf_zero h
  obtain ⟨k, hk, rfl⟩ := mask_nat (heard_in h1)
  exact any_yes _ k hk (by simp [pB, h])
theorem one_row : ∀ x ∈ v4, ∀ y ∈ v4, ∀ z ∈ v4, (mayP [x, y, z] 0 && mayP [x, y, z] 1) = false := by decide +kernel
/-- 0 and 1 are not both proposed. -/
theorem mayP_one {zs : List Int} (h : mayP zs 0 = true) : mayP zs 1 = false := by
  by_cases h0 : vf zs 1 = 0
  · obtain ⟨x, hx, y, hy, z, hz, rfl⟩ := vf_three (Or.inl rfl) h0
    have := one_row x hx y hy z hz
    rw [h, Bool.true_and] at this
    exact this
  · refine any_none _ (fun k => ?_) 8
    have hc : (pfC zs k == 0) = false := by
      rw [beq_eq_false_iff_ne]
      intro e
      exact h0 (pf_zero e).1
    simp only [pB, hc, Bool.false_and]
theorem cfV_of {zs : List Int} {m c : Int} (h : chC zs m c = 0) : cfV zs m c = chV (cnt m zs 0) (cnt m zs 1) c := by simp [cfV, h]
theorem cfV_in {zs : List Int} {m c : Int} (h : chC zs m c = 0) : 0 ≤ cfV zs m c ∧ cfV zs m c ≤ 1 := by
  have hc := of_decide_eq_true (ch_zero h).2.1
  rw [cfV_of h]
  unfold chV
  split
  · omega
  · split <;> omega
/-- What is gone on with may be reported. -/
theorem mayR_own {zs : List Int} {m c : Int} (h : chC zs m c = 0) : mayR zs (cfV zs m c) = true := by
  obtain ⟨h0, hc, hb, h1⟩ := ch_zero h
  have hV := cfV_in h
  have hV' : inB (cfV zs m c) 0 1 = true := decide_eq_true hV
  have h2 := ch_mk h0 hV' hb h1
  have h3 : cfV zs m (cfV zs m c) = cfV zs m c := by
    rw [cfV_of h2, cfV_of h]
    unfold chV
    split
    · rfl
    · split <;> rfl
  obtain ⟨k, hk, rfl⟩ := mask_nat (heard_in h1)
  refine any_yes _ k hk ?_
  simp only [rB, h2, h3]
  simp
theorem all_go : ∀ x ∈ v4, ∀ y ∈ v4, ∀ z ∈ v4, ∀ m ∈ m8, (chC [x, y, z] m 0 == 0) = true → cfD [x, y, z] m 0 = true → mayR [x, y, z] (1 - cfV [x, y, z] m 0) = false := by decide +kernel
theorem all_go1 : ∀ x ∈ v4, ∀ y ∈ v4, ∀ z ∈ v4, ∀ m ∈ m8, (chC [x, y, z] m 1 == 0) = true → cfD [x, y, z] m 1 = true → mayR [x, y, z] (1 - cfV [x, y, z] m 1) = false := by decide +kernel
/-- What a quorum proposed is what everybody goes on with. -/
theorem mayR_one {zs : List Int} {m c : Int} (h : chC zs m c = 0) (hD : cfD zs m c = true) : mayR zs (1 - cfV zs m c) = false := by
  obtain ⟨h0, hc, hb, h1⟩ := ch_zero h
  obtain ⟨x, hx, y, hy, z, hz, rfl⟩ := vf_three (Or.inr rfl) h0
  have hm : m ∈ m8 := by rcases eight (heard_in h1) with rfl | rfl | rfl | rfl | rfl | rfl | rfl | rfl <;> simp
  have hc2 : c = 0 ∨ c = 1 := by have := of_decide_eq_true hc; omega
  rcases hc2 with rfl | rfl
  · exact all_go x hx y hy z hz m hm (by simp [h]) hD
  · exact all_go1 x hx y hy z hz m hm (by simp [h]) hD

end Go.Proofs.YtmlkfmjenkcflaaGreatDoor

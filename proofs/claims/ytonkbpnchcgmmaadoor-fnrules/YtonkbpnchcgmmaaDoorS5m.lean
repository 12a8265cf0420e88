/- MayPropose and MayReport, of the program and of its model. -/
import Derived.Test.YtonkbpnchcgmmaaDoorS5v
import Derived.Test.YtonkbpnchcgmmaaDoorS5g
import Derived.Laws.StructEq
namespace Go.Proofs.YtonkbpnchcgmmaaDoor
open Go.RowKit
set_option linter.unusedVariables false
set_option linter.unusedSimpArgs false

/-- Does one of the masks 0 to n - 1 say so? -/
def anyB (f : Nat → Bool) (n : Nat) : Bool := (List.range n).any f
theorem any_step (f : Nat → Bool) (k : Nat) (h : anyB f k = false) (hk : f k = false) : anyB f (k + 1) = false := by
  unfold anyB at *
  rw [List.range_succ, List.any_append, h, List.any_cons, hk]
  rfl
theorem any_yes (f : Nat → Bool) (k : Nat) (hk : k < 8) (h : f k = true) : anyB f 8 = true := by
  unfold anyB
  rw [List.any_eq_true]
  exact ⟨k, List.mem_range.2 hk, h⟩
def pB (zs : List Int) (v : Int) (k : Nat) : Bool := (pfC zs k == 0) && (pfV zs k == v)
def mayP (zs : List Int) (v : Int) : Bool := anyB (pB zs v) 8
def rB (zs : List Int) (v : Int) (k : Nat) : Bool := (chC zs k v == 0) && (cfV zs k v == v)
def mayR (zs : List Int) (v : Int) : Bool := anyB (rB zs v) 8
theorem any_none (f : Nat → Bool) (h : ∀ k, f k = false) (n : Nat) : anyB f n = false := by
  unfold anyB
  rw [List.any_eq_false]
  intro x _
  rw [h x]
  decide
theorem mayR_no (zs : List Int) (v : Int) (h : inB v 0 1 = false) : mayR zs v = false := by
  refine any_none _ (fun k => ?_) 8
  have hc : (chC zs k v == 0) = false := by
    rw [beq_eq_false_iff_ne]
    unfold chC
    rw [h]
    split
    · simp
    · assumption
  simp only [rB, hc, Bool.false_and]

theorem eqIR_run (x0 x1 y0 y1 : Int) (w : World) : (binOp .eql 28 (.agg #[.int .i64 x0, .int .i64 x1]) (.agg #[.int .i64 y0, .int .i64 y1])).run Tryd.prog w = .ok (.bool ((x0 == y0) && (x1 == y1))) w := by
  rw [run_eql_struct, run_equalIn_struct (P := Tryd.prog) w 9999 28 _ _ (by kernel_rfl) (by kernel_rfl)]
  have c1 : Tryd.prog.cellsOf 2 = 1 := by kernel_rfl
  cases h0 : (x0 == y0) <;> cases h1 : (x1 == y1) <;> simp [Program.fieldsOf, Tryd.underlying28, Op.eqFields, go_sem, Tryd.underlying2, h0, h1, c1]

set_option maxHeartbeats 2000000 in
theorem implMayP_any (a : Option Addr) (cap : Nat) (zs : List Int) (v : Int) (w : World) (hG : Rul w) (h : Row .i64 w a zs) (hm : zs.length ≤ 9223372036854775807) :
    Calls Tryd.prog 17 #[.slice a zs.length cap, .int .i64 v] w fun e w' => e = .returned (.bool (mayP zs v)) ∧ Below w.heap.size w w' := by
  have HT : Hid (∀ k, k < 8 → pB zs v k = true → mayP zs v = true) := fun k hk h => any_yes _ k hk h
  have HF : Hid (anyB (pB zs v) 8 = false → mayP zs v = false) := fun h => h
  generalize mayP zs v = E at HT HF ⊢
  go_enter Tryd.func17, Tryd.ntmps17
  go_wp2
  go_loopw [6] (fun i wr => ∃ k : Nat, k ≤ 8 ∧ i = .int .i64 k ∧ anyB (pB zs v) k = false ∧ Below w.heap.size w wr) (fun i _ => 8 - (intOf i).toNat)
  case atStart => exact ⟨0, Nat.zero_le _, rfl, rfl, Below.refl _ _⟩
  case round =>
    obtain ⟨k, hk, rfl, hany, hb⟩ := hrel
    by_cases hlt : k < 8
    · have hc := implProp_any a cap zs k wr (hG.below hb) (h.below hb) hm
      have HS : Hid (pB zs v k = false → anyB (pB zs v) (k + 1) = false) := fun h => any_step _ k hany h
      have HY : Hid (pB zs v k = true → E = true) := fun h => HT.out k hlt h
      have hfk : pB zs v k = ((pfC zs k == 0) && (pfV zs k == v)) := rfl
      rw [hfk] at HS HY
      clear HT HF hany hfk
      generalize pfC zs k = C at *
      generalize pfV zs k = V at *
      go_wp2_with fail
      refine hc.mono ?_
      rintro e w1 ⟨rfl, hb1⟩
      replace hb := hb.trans (hb1.mono hb.size)
      clear hc hb1
      by_cases h1 : C = 0
      · subst h1
        by_cases h2 : (V == v) = true
        · have HE : Hid (E = true) := HY.out (by rw [h2]; rfl)
          clear HS HY
          go_wp2
          go_ret
          exact ⟨by rw [HE.out]; rfl, by repeat first | exact hb | refine Below.alloc ?_ (by have := hb.size; simp; omega) _⟩
        · have h2' : (V == v) = false := by simpa using h2
          have R : Hid (anyB _ (k + 1) = false) := HS.out (by rw [h2']; rfl)
          clear HS HY h2
          go_wp2
          go_roundw
          case rel => exact ⟨k + 1, by omega, by go_num, R.out, by repeat first | exact hb | refine Below.alloc ?_ (by have := hb.size; simp; omega) _⟩
          case measure => simp [intOf]; omega
      · have h1' : (C == 0) = false := by simpa using h1
        have R : Hid (anyB _ (k + 1) = false) := HS.out (by rw [h1']; rfl)
        clear HS HY h1
        go_wp2
        go_roundw
        case rel => exact ⟨k + 1, by omega, by go_num, R.out, by repeat first | exact hb | refine Below.alloc ?_ (by have := hb.size; simp; omega) _⟩
        case measure => simp [intOf]; omega
    · have hkl : k = 8 := by omega
      subst hkl
      have HE : Hid (E = false) := HF.out hany
      clear HT HF hany
      go_wp2
      go_ret
      exact ⟨by rw [HE.out]; rfl, hb⟩

set_option maxHeartbeats 2000000 in
theorem specMayP_any (a : Option Addr) (cap : Nat) (zs : List Int) (v : Int) (w : World) (h : Row .i64 w a zs) (hm : zs.length ≤ 9223372036854775807) :
    Calls Tryd.prog 18 #[.slice a zs.length cap, .int .i64 v] w fun e w' => e = .returned (.bool (mayP zs v)) ∧ Below w.heap.size w w' := by
  have HT : Hid (∀ k, k < 8 → pB zs v k = true → mayP zs v = true) := fun k hk h => any_yes _ k hk h
  have HF : Hid (anyB (pB zs v) 8 = false → mayP zs v = false) := fun h => h
  generalize mayP zs v = E at HT HF ⊢
  go_enter Tryd.func18, Tryd.ntmps18
  go_wp2
  go_loopw [5] (fun i wr => ∃ k : Nat, k ≤ 8 ∧ i = .int .i64 k ∧ anyB (pB zs v) k = false ∧ Below w.heap.size w wr) (fun i _ => 8 - (intOf i).toNat)
  case atStart => exact ⟨0, Nat.zero_le _, rfl, rfl, Below.refl _ _⟩
  case round =>
    obtain ⟨k, hk, rfl, hany, hb⟩ := hrel
    by_cases hlt : k < 8
    · have hc := specProp_any a cap zs k wr (h.below hb) hm
      have HS : Hid (pB zs v k = false → anyB (pB zs v) (k + 1) = false) := fun h => any_step _ k hany h
      have HY : Hid (pB zs v k = true → E = true) := fun h => HT.out k hlt h
      have hfk : pB zs v k = ((pfC zs k == 0) && (pfV zs k == v)) := rfl
      rw [hfk] at HS HY
      clear HT HF hany hfk
      generalize pfC zs k = C at *
      generalize pfV zs k = V at *
      go_wp2_with fail
      refine hc.mono ?_
      rintro e w1 ⟨rfl, hb1⟩
      replace hb := hb.trans (hb1.mono hb.size)
      clear hc hb1
      by_cases h1 : C = 0
      · subst h1
        by_cases h2 : (V == v) = true
        · have HE : Hid (E = true) := HY.out (by rw [h2]; rfl)
          clear HS HY
          go_wp2
          go_ret
          exact ⟨by rw [HE.out]; rfl, by repeat first | exact hb | refine Below.alloc ?_ (by have := hb.size; simp; omega) _⟩
        · have h2' : (V == v) = false := by simpa using h2
          have R : Hid (anyB _ (k + 1) = false) := HS.out (by rw [h2']; rfl)
          clear HS HY h2
          go_wp2
          go_roundw
          case rel => exact ⟨k + 1, by omega, by go_num, R.out, by repeat first | exact hb | refine Below.alloc ?_ (by have := hb.size; simp; omega) _⟩
          case measure => simp [intOf]; omega
      · have h1' : (C == 0) = false := by simpa using h1
        have R : Hid (anyB _ (k + 1) = false) := HS.out (by rw [h1']; rfl)
        clear HS HY h1
        go_wp2
        go_roundw
        case rel => exact ⟨k + 1, by omega, by go_num, R.out, by repeat first | exact hb | refine Below.alloc ?_ (by have := hb.size; simp; omega) _⟩
        case measure => simp [intOf]; omega
    · have hkl : k = 8 := by omega
      subst hkl
      have HE : Hid (E = false) := HF.out hany
      clear HT HF hany
      go_wp2
      go_ret
      exact ⟨by rw [HE.out]; rfl, hb⟩

set_option maxHeartbeats 2000000 in
theorem implMayR_any (a : Option Addr) (cap : Nat) (zs : List Int) (v : Int) (w : World) (hG : Rul w) (h : Row .i64 w a zs) (hm : zs.length ≤ 9223372036854775807) :
    Calls Tryd.prog 19 #[.slice a zs.length cap, .int .i64 v] w fun e w' => e = .returned (.bool (mayR zs v)) ∧ Below w.heap.size w w' := by
  have HT : Hid (∀ k, k < 8 → rB zs v k = true → mayR zs v = true) := fun k hk h => any_yes _ k hk h
  have HF : Hid (anyB (rB zs v) 8 = false → mayR zs v = false) := fun h => h
  generalize mayR zs v = E at HT HF ⊢
  go_enter Tryd.func19, Tryd.ntmps19
  go_wp2
  go_loopw [7] (fun i wr => ∃ k : Nat, k ≤ 8 ∧ i = .int .i64 k ∧ anyB (rB zs v) k = false ∧ Below w.heap.size w wr) (fun i _ => 8 - (intOf i).toNat)
  case atStart => exact ⟨0, Nat.zero_le _, rfl, rfl, Below.refl _ _⟩
  case round =>
    obtain ⟨k, hk, rfl, hany, hb⟩ := hrel
    by_cases hlt : k < 8
    · have hc := implChoice_any a cap zs k v wr (hG.below hb) (h.below hb) hm
      have HS : Hid (rB zs v k = false → anyB (rB zs v) (k + 1) = false) := fun h => any_step _ k hany h
      have HY : Hid (rB zs v k = true → E = true) := fun h => HT.out k hlt h
      have hfk : rB zs v k = ((chC zs k v == 0) && (cfV zs k v == v)) := rfl
      rw [hfk] at HS HY
      clear HT HF hany hfk
      generalize chC zs k v = C at *
      generalize cfD zs k v = D at *
      generalize cfK zs k v = K at *
      generalize cfV zs k v = V at *
      go_wp2_with fail
      refine hc.mono ?_
      rintro e w1 ⟨rfl, hb1⟩
      replace hb := hb.trans (hb1.mono hb.size)
      clear hc hb1
      by_cases h1 : C = 0
      · subst h1
        by_cases h2 : (V == v) = true
        · have HE : Hid (E = true) := HY.out (by rw [h2]; rfl)
          clear HS HY
          go_wp2
          go_ret
          exact ⟨by rw [HE.out]; rfl, by repeat first | exact hb | refine Below.alloc ?_ (by have := hb.size; simp; omega) _⟩
        · have h2' : (V == v) = false := by simpa using h2
          have R : Hid (anyB _ (k + 1) = false) := HS.out (by rw [h2']; rfl)
          clear HS HY h2
          go_wp2
          go_roundw
          case rel => exact ⟨k + 1, by omega, by go_num, R.out, by repeat first | exact hb | refine Below.alloc ?_ (by have := hb.size; simp; omega) _⟩
          case measure => simp [intOf]; omega
      · have h1' : (C == 0) = false := by simpa using h1
        have R : Hid (anyB _ (k + 1) = false) := HS.out (by rw [h1']; rfl)
        clear HS HY h1
        go_wp2
        go_roundw
        case rel => exact ⟨k + 1, by omega, by go_num, R.out, by repeat first | exact hb | refine Below.alloc ?_ (by have := hb.size; simp; omega) _⟩
        case measure => simp [intOf]; omega
    · have hkl : k = 8 := by omega
      subst hkl
      have HE : Hid (E = false) := HF.out hany
      clear HT HF hany
      go_wp2
      go_ret
      exact ⟨by rw [HE.out]; rfl, hb⟩

set_option maxHeartbeats 2000000 in
theorem specMayR_any (a : Option Addr) (cap : Nat) (zs : List Int) (v : Int) (w : World) (h : Row .i64 w a zs) (hm : zs.length ≤ 9223372036854775807) :
    Calls Tryd.prog 20 #[.slice a zs.length cap, .int .i64 v] w fun e w' => e = .returned (.bool (mayR zs v)) ∧ Below w.heap.size w w' := by
  have HT : Hid (∀ k, k < 8 → rB zs v k = true → mayR zs v = true) := fun k hk h => any_yes _ k hk h
  have HF : Hid (anyB (rB zs v) 8 = false → mayR zs v = false) := fun h => h
  by_cases hin : inB v 0 1 = true
  case neg =>
    have hin' : inB v 0 1 = false := by simpa using hin
    rw [mayR_no zs v hin']
    clear hin HT HF
    go_enter Tryd.func20, Tryd.ntmps20
    go_wp2_with (go_at_call 38; refine (l1In_any _ _ _ _).mono ?_; rintro e w' ⟨rfl, rfl⟩)
    go_ret
    exact ⟨rfl, Below.refl _ _⟩
  generalize mayR zs v = E at HT HF ⊢
  go_enter Tryd.func20, Tryd.ntmps20
  go_wp2_with (go_at_call 38; refine (l1In_any _ _ _ _).mono ?_; rintro e w' ⟨rfl, hw⟩; replace hw := hw.symm; subst hw)
  go_loopw [5] (fun i wr => ∃ k : Nat, k ≤ 8 ∧ i = .int .i64 k ∧ anyB (rB zs v) k = false ∧ Below w.heap.size w wr) (fun i _ => 8 - (intOf i).toNat)
  case atStart => exact ⟨0, Nat.zero_le _, rfl, rfl, Below.refl _ _⟩
  case round =>
    obtain ⟨k, hk, rfl, hany, hb⟩ := hrel
    by_cases hlt : k < 8
    · have hc := specChoice_any a cap zs k v wr (h.below hb) hm
      have HS : Hid (rB zs v k = false → anyB (rB zs v) (k + 1) = false) := fun h => any_step _ k hany h
      have HY : Hid (rB zs v k = true → E = true) := fun h => HT.out k hlt h
      have hfk : rB zs v k = ((chC zs k v == 0) && (cfV zs k v == v)) := rfl
      rw [hfk] at HS HY
      clear HT HF hany hfk
      generalize chC zs k v = C at *
      generalize cfD zs k v = D at *
      generalize cfK zs k v = K at *
      generalize cfV zs k v = V at *
      go_wp2_with fail
      refine hc.mono ?_
      rintro e w1 ⟨rfl, hb1⟩
      replace hb := hb.trans (hb1.mono hb.size)
      clear hc hb1
      by_cases h1 : C = 0
      · subst h1
        by_cases h2 : (V == v) = true
        · have HE : Hid (E = true) := HY.out (by rw [h2]; rfl)
          clear HS HY
          go_wp2
          go_ret
          exact ⟨by rw [HE.out]; rfl, by repeat first | exact hb | refine Below.alloc ?_ (by have := hb.size; simp; omega) _⟩
        · have h2' : (V == v) = false := by simpa using h2
          have R : Hid (anyB _ (k + 1) = false) := HS.out (by rw [h2']; rfl)
          clear HS HY h2
          go_wp2
          go_roundw
          case rel => exact ⟨k + 1, by omega, by go_num, R.out, by repeat first | exact hb | refine Below.alloc ?_ (by have := hb.size; simp; omega) _⟩
          case measure => simp [intOf]; omega
      · have h1' : (C == 0) = false := by simpa using h1
        have R : Hid (anyB _ (k + 1) = false) := HS.out (by rw [h1']; rfl)
        clear HS HY h1
        go_wp2
        go_roundw
        case rel => exact ⟨k + 1, by omega, by go_num, R.out, by repeat first | exact hb | refine Below.alloc ?_ (by have := hb.size; simp; omega) _⟩
        case measure => simp [intOf]; omega
    · have hkl : k = 8 := by omega
      subst hkl
      have HE : Hid (E = false) := HF.out hany
      clear HT HF hany
      go_wp2
      go_ret
      exact ⟨by rw [HE.out]; rfl, hb⟩

end Go.Proofs.YtonkbpnchcgmmaaDoor

/- The table of rules, and the rule that fits: how many voted 0 and 1 is one complex number. -/
import Derived.Test.YtonkbpnchcgmmaaDoorS5s
import Derived.Test.YtonkbpnchcgmmaaDoorBlk5
namespace Go.Proofs.YtonkbpnchcgmmaaDoor
open Go.RowKit
set_option linter.unusedVariables false
set_option linter.unusedSimpArgs false

/-- The table's cells. -/
def rulL : List Value := [
  .int .i64 2, .int .i64 0, .int .i64 0, .int .i64 0, .bool true, .bool false, .int .i64 0,
  .int .i64 0, .int .i64 2, .int .i64 1, .int .i64 0, .bool true, .bool false, .int .i64 1,
  .int .i64 1, .int .i64 0, .int .i64 2, .int .i64 0, .bool false, .bool false, .int .i64 0,
  .int .i64 0, .int .i64 1, .int .i64 2, .int .i64 0, .bool false, .bool false, .int .i64 1,
  .int .i64 0, .int .i64 0, .int .i64 2, .int .i64 0, .bool false, .bool true, .int .i64 0]
/-- The variable holds the table. -/
def Rul (w : World) : Prop := ∀ i v, rulL[i]? = some v → w.cell? ⟨0, i, none⟩ = some v
theorem Rul.below {w w' : World} (h : Rul w) (hb : Below w.heap.size w w') : Rul w' := by
  intro i v hv
  have h1 := h i v hv
  rw [hb.cell (p := ⟨0, i, none⟩) (World.block_lt_of_cell? w ⟨0, i, none⟩ h1)]
  exact h1

/-- A number as a float. -/
abbrev fl (n : Int) : Nat := floatOfInt FloatKind.f64 n
theorem fl_geq4 : ∀ a ∈ [(0 : Int), 1, 2, 3], ∀ b ∈ [(0 : Int), 1, 2, 3], (FloatKind.f64.format.order (fl a) (fl b) == some .gt || FloatKind.f64.format.order (fl a) (fl b) == some .eq) = decide (b ≤ a) := by decide +kernel
theorem fl_gtr4 : ∀ a ∈ [(0 : Int), 1, 2, 3], (FloatKind.f64.format.order (fl a) 0 == some .gt) = decide (0 < a) := by decide +kernel
theorem four {a : Int} (h : 0 ≤ a ∧ a ≤ 3) : a ∈ [(0 : Int), 1, 2, 3] := by
  have : a = 0 ∨ a = 1 ∨ a = 2 ∨ a = 3 := by omega
  rcases this with rfl | rfl | rfl | rfl <;> simp
theorem fl_geq {a b : Int} (ha : 0 ≤ a ∧ a ≤ 3) (hb : 0 ≤ b ∧ b ≤ 3) : (FloatKind.f64.format.order (fl a) (fl b) == some .gt || FloatKind.f64.format.order (fl a) (fl b) == some .eq) = decide (b ≤ a) := fl_geq4 a (four ha) b (four hb)
theorem fl_gtr {a : Int} (ha : 0 ≤ a ∧ a ≤ 3) : (FloatKind.f64.format.order (fl a) 0 == some .gt) = decide (0 < a) := fl_gtr4 a (four ha)

/-- The value of a rule. -/
def rulV (zi oi pr : Int) (d k : Bool) (vl : Int) : Value := .agg #[.int .i64 zi, .int .i64 oi, .int .i64 pr, .int .i64 0, .bool d, .bool k, .int .i64 vl]

set_option maxHeartbeats 2000000 in
theorem fits_any (zi oi pr : Int) (d k : Bool) (vl z o : Int) (w : World) (hzi : 0 ≤ zi ∧ zi ≤ 3) (hoi : 0 ≤ oi ∧ oi ≤ 3) (hz : 0 ≤ z ∧ z ≤ 3) (ho : 0 ≤ o ∧ o ≤ 3) :
    Calls Tryd.prog 44 #[rulV zi oi pr d k vl, .complex .f64 (fl z) (fl o)] w fun e w' => e = .returned (.bool (decide (zi ≤ z) && decide (oi ≤ o))) ∧ Below w.heap.size w w' := by
  have f1 := fl_geq hz hzi
  have f2 := fl_geq ho hoi
  unfold rulV
  generalize fl z = z0 at f1 ⊢
  generalize fl o = o0 at f2 ⊢
  dsimp only [fl] at f1 f2
  by_cases h1 : zi ≤ z
  · have d1 : decide (zi ≤ z) = true := decide_eq_true h1
    rw [d1] at f1 ⊢
    generalize decide (oi ≤ o) = t at f2 ⊢
    clear h1 d1 hzi hoi hz ho
    go_enter Tryd.func44, Tryd.ntmps44
    go_wp2
    go_ret
    exact ⟨by simp [f2], by go_grown⟩
  · have d1 : decide (zi ≤ z) = false := decide_eq_false h1
    rw [d1] at f1 ⊢
    clear h1 d1 hzi hoi hz ho f2
    go_enter Tryd.func44, Tryd.ntmps44
    go_wp2
    go_ret
    exact ⟨by simp, by go_grown⟩

end Go.Proofs.YtonkbpnchcgmmaaDoor

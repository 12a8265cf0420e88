/- What the great test of FnNumbers leans on: its code is taken out of the translation by its number; small facts on cells and fields. -/
import Derived.Test.YtbionobcbbmbjabNumPure
import Derived.Test.YtbionobcbbmbjabLawHelp
import Derived.Test.YtbionobcbbmbjabSum
import Derived.Test.YtbionobcbbmbjabText
namespace Go.Proofs.Ytbionobcbbmbjab
open Go.RowKit
set_option linter.unusedVariables false
set_option linter.unusedSimpArgs false

theorem lwBytes_b (a a' : Option Addr) (cap cap' : Nat) (zs : List Int) (w : World) (h : Row .u8 w a zs) (h' : Row .u8 w a' zs) (hl : zs.length ≤ 1099511627776) :
    Calls Try.prog 18 #[.slice a zs.length cap, .slice a' zs.length cap'] w fun e w' => e = .returned (.bool true) ∧ Below w.heap.size w w' :=
  (lwBytes_true a a' cap cap' zs w h h' hl).mono (fun e w' ⟨h1, h2⟩ => ⟨h1, h2 ▸ Below.refl _ _⟩)

theorem lwNums_b (a a' : Option Addr) (cap cap' : Nat) (zs : List Int) (w : World) (h : Row .i64 w a zs) (h' : Row .i64 w a' zs) (hl : zs.length ≤ 1099511627776) :
    Calls Try.prog 20 #[.slice a zs.length cap, .slice a' zs.length cap'] w fun e w' => e = .returned (.bool true) ∧ Below w.heap.size w w' :=
  (lwNums_true a a' cap cap' zs w h h' hl).mono (fun e w' ⟨h1, n, h2⟩ => ⟨h1, h2 ▸ below_drewN (Below.refl _ _) n⟩)

theorem six_below {w w' : World} (hb : Below w.heap.size w w') {a1 a2 a3 a4 a5 a6 : Nat} {o1 o2 o3 o4 o5 o6 : Nat} {v1 v2 v3 v4 v5 v6 : Value}
    (h : w.cell? ⟨a1, o1, none⟩ = some v1 ∧ w.cell? ⟨a2, o2, none⟩ = some v2 ∧ w.cell? ⟨a3, o3, none⟩ = some v3 ∧ w.cell? ⟨a4, o4, none⟩ = some v4 ∧ w.cell? ⟨a5, o5, none⟩ = some v5 ∧ w.cell? ⟨a6, o6, none⟩ = some v6) :
    w'.cell? ⟨a1, o1, none⟩ = some v1 ∧ w'.cell? ⟨a2, o2, none⟩ = some v2 ∧ w'.cell? ⟨a3, o3, none⟩ = some v3 ∧ w'.cell? ⟨a4, o4, none⟩ = some v4 ∧ w'.cell? ⟨a5, o5, none⟩ = some v5 ∧ w'.cell? ⟨a6, o6, none⟩ = some v6 := by
  have k : ∀ (a : Addr) (v : Value), w.cell? a = some v → w'.cell? a = some v := fun a v e => by rw [hb.cell (World.block_lt_of_cell? w a e)]; exact e
  obtain ⟨h1, h2, h3, h4, h5, h6⟩ := h
  exact ⟨k _ _ h1, k _ _ h2, k _ _ h3, k _ _ h4, k _ _ h5, k _ _ h6⟩

theorem fieldI0 (c : Int) (a : Option Addr) (l k : Nat) (w : World) : (Instr.field 27 (.agg #[.int .i64 c, .slice a l k]) 0).run Try.prog w = .ok (.int .i64 c) w := by kernel_rfl
theorem fieldI1 (c : Int) (a : Option Addr) (l k : Nat) (w : World) : (Instr.field 27 (.agg #[.int .i64 c, .slice a l k]) 1).run Try.prog w = .ok (.slice a l k) w := by kernel_rfl
theorem fieldB0 (c : Int) (a : Option Addr) (l k : Nat) (w : World) : (Instr.field 31 (.agg #[.int .i64 c, .slice a l k]) 0).run Try.prog w = .ok (.int .i64 c) w := by kernel_rfl
theorem fieldB1 (c : Int) (a : Option Addr) (l k : Nat) (w : World) : (Instr.field 31 (.agg #[.int .i64 c, .slice a l k]) 1).run Try.prog w = .ok (.slice a l k) w := by kernel_rfl
theorem fieldN0 (c v : Int) (w : World) : (Instr.field 40 (.agg #[.int .i64 c, .int .i64 v]) 0).run Try.prog w = .ok (.int .i64 c) w := by kernel_rfl
theorem fieldN1 (c v : Int) (w : World) : (Instr.field 40 (.agg #[.int .i64 c, .int .i64 v]) 1).run Try.prog w = .ok (.int .i64 v) w := by kernel_rfl

end Go.Proofs.Ytbionobcbbmbjab

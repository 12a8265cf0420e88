/- What the number functions of the program and of its model do, one contract a function: put, get, and whether a number is a short one. -/
import Derived.Test.YtkkdjgiencilbaaHelpR
namespace Go.Proofs.Ytkkdjgiencilbaa
open Go.RowKit
set_option linter.unusedVariables false
set_option linter.unusedSimpArgs false

/-- Does v lie from lo to hi? -/
def inB (v lo hi : Int) : Bool := decide (lo ≤ v ∧ v ≤ hi)
/-- Is n a short number? -/
def shortB (n : Int) : Bool := inB n (-32768) 32767
theorem short_of {n : Int} (h : shortB n = true) : -32768 ≤ n ∧ n ≤ 32767 := of_decide_eq_true h
theorem short_not {n : Int} (h : shortB n = false) : ¬ (-32768 ≤ n ∧ n ≤ 32767) := of_decide_eq_false h
theorem short_mk {n : Int} (h : -32768 ≤ n ∧ n ≤ 32767) : shortB n = true := decide_eq_true h
theorem short_mkn {n : Int} (h : ¬ (-32768 ≤ n ∧ n ≤ 32767)) : shortB n = false := decide_eq_false h

/-- The two bytes of a number, the higher one first. -/
def put2 (n : Int) : List Int := [n % 65536 / 256, n % 256]

set_option maxHeartbeats 1000000 in
theorem l1In_any (v lo hi : Int) (w : World) :
    Calls Try.prog 68 #[.int .i64 v, .int .i64 lo, .int .i64 hi] w fun e w' => e = .returned (.bool (inB v lo hi)) ∧ w' = w := by
  by_cases h1 : lo ≤ v <;> by_cases h2 : v ≤ hi
  all_goals
    go_enter Try.func68, Try.ntmps68
    go_wp2
    go_ret
    exact ⟨by simp [inB, h1, h2], rfl⟩

set_option maxHeartbeats 1000000 in
theorem within_any (n lo hi : Int) (w : World) :
    Calls Try.prog 42 #[.int .i64 n, .int .i64 lo, .int .i64 hi] w fun e w' => e = .returned (.bool (inB n lo hi)) ∧ w' = w := by
  by_cases h1 : lo ≤ n <;> by_cases h2 : n ≤ hi
  all_goals
    go_enter Try.func42, Try.ntmps42
    go_wp2
    go_ret
    exact ⟨by simp [inB, h1, h2], rfl⟩

/-- What is told of a number: its bytes, or a code. -/
def putC (n : Int) : Int := if shortB n then 0 else 3
def putL (n : Int) : List Int := if shortB n then put2 n else []

theorem u16_wrap (n : Int) : IntKind.u16.wrap n = n % 65536 := by
  simp [IntKind.wrap, IntKind.bits, IntKind.signed]

theorem below_of_grown {w w' : World} (h : w.grownBy w' (Value.slice none 0 0).ownBlock) : Below w.heap.size w w' :=
  ⟨h.os, h.tape, h.output, h.size, fun k hk => h.block k hk (by simp [Value.ownBlock])⟩

end Go.Proofs.Ytkkdjgiencilbaa

/- What the number functions of the program and of its model do, one contract a function: put, get, and whether a number is a short one. -/
import Derived.Test.YtpdbjjklcejimaaHelpR
namespace Go.Proofs.Ytpdbjjklcejimaa
open Go.RowKit
set_option linter.unusedVariables false
set_option linter.unusedSimpArgs false

/-- Does v lie from lo to hi? -/
def inB (v lo hi : Int) : Bool := decide (lo ≤ v ∧ v ≤ hi)
/-- Is n a short number? -/
def shortB (n : Int) : Bool := inB n (-32768) 32767
theorem short_of {n : Int} (h : shortB n = true) : -32768 ≤ n ∧ n ≤ 32767 := of_decide_eq_true h
theorem short_not {n : Int} (h : shortB n = false) : ¬ (-32768 ≤ n ∧ n ≤ 32767) := of_decide_eq_false h
theorem short_mk {n : Int} (h : -32768 ≤ n ∧ n ≤ 32767) : shortB n = true := decide_eq_true h
theorem short_mkn {n : Int} (h : ¬ (-32768 ≤ n ∧ n ≤ 32767)) : shortB n = false := decide_eq_false h

/-- The two bytes of a number, the higher one first. -/
def put2 (n : Int) : List Int := [n % 65536 / 256, n % 256]

set_option maxHeartbeats 1000000 in
theorem l1In_any (v lo hi : Int) (w : World) :
    Calls Try.prog 56 #[.int .i64 v, .int .i64 lo, .int .i64 hi] w fun e w' => e = .returned (.bool (inB v lo hi)) ∧ w' = w := by
  by_cases h1 : lo ≤ v <;> by_cases h2 : v ≤ hi
  all_goals
    go_enter Try.func56, Try.ntmps56
    go_wp2
    go_ret
    exact ⟨by simp [inB, h1, h2], rfl⟩

set_option maxHeartbeats 1000000 in
theorem within_any (n lo hi : Int) (w : World) :
    Calls Try.prog 44 #[.int .i64 n, .int .i64 lo, .int .i64 hi] w fun e w' => e = .returned (.bool (inB n lo hi)) ∧ w' = w := by
  by_cases h1 : lo ≤ n <;> by_cases h2 : n ≤ hi
  all_goals
    go_enter Try.func44, Try.ntmps44
    go_wp2
    go_ret
    exact ⟨by simp [inB, h1, h2], rfl⟩

set_option maxHeartbeats 1000000 in
theorem isShort_any (n : Int) (w : World) :
    Calls Try.prog 54 #[.int .i64 n] w fun e w' => e = .returned (.bool (shortB n)) ∧ w' = w := by
  by_cases h1 : -32768 ≤ n <;> by_cases h2 : n ≤ 32767
  all_goals
    go_enter Try.func54, Try.ntmps54
    go_wp2
    go_ret
    exact ⟨by simp [shortB, inB, h1, h2], rfl⟩

set_option maxHeartbeats 1000000 in
theorem l1Put_any (n : Int) (w : World) (h : shortB n = true) :
    Calls Try.prog 58 #[.int .i64 n] w fun e w' => ∃ a k, e = .returned (.slice a 2 k) ∧ w'.ownsRow w.heap.size 5 1 (.slice a 2 k) 2 ((put2 n).map (Value.int .u8)) ∧ Below w.heap.size w w' := by
  obtain ⟨h1, h2⟩ := short_of h
  clear h
  by_cases h0 : n < 0
  all_goals
    go_enter Try.func58, Try.ntmps58
    go_wp2
    go_ret
    refine ⟨_, _, rfl, ?_, by go_grown⟩
  · have e : put2 n = [(n + 65536) / 256, (n + 65536) % 256] := by simp [put2]; omega
    rw [e]
    exact World.ownsRow_lit w #[_, _] 2 (Nat.le_refl _) (by decide) rfl
  · have e : put2 n = [n / 256, n % 256] := by simp [put2]; omega
    rw [e]
    exact World.ownsRow_lit w #[_, _] 2 (Nat.le_refl _) (by decide) rfl

/-- What is told of a number: its bytes, or a code. -/
def putC (n : Int) : Int := if shortB n then 0 else 3
def putL (n : Int) : List Int := if shortB n then put2 n else []

theorem u16_wrap (n : Int) : IntKind.u16.wrap n = n % 65536 := by
  simp [IntKind.wrap, IntKind.bits, IntKind.signed]

theorem below_of_grown {w w' : World} (h : w.grownBy w' (Value.slice none 0 0).ownBlock) : Below w.heap.size w w' :=
  ⟨h.os, h.tape, h.output, h.size, fun k hk => h.block k hk (by simp [Value.ownBlock])⟩

set_option maxHeartbeats 1000000 in
theorem appendShort_any (base : Nat) (v : Value) (m : Nat) (xs : List Value) (n : Int) (w : World) (ho : w.ownsRow base 5 1 v m xs) (hm : m ≤ 1099511627776) (hbase : base ≤ w.heap.size) :
    Calls Try.prog 40 #[v, .int .i64 n] w fun e w' => ∃ a k, e = .returned (.slice a (m + 2) k) ∧ w'.ownsRow base 5 1 (.slice a (m + 2) k) (m + 2) (xs ++ (put2 n).map (Value.int .u8)) ∧ w.grownBy w' v.ownBlock := by
  obtain ⟨i0, hi, hz0, hz1, hz2⟩ := info_parts infoU8
  obtain ⟨a0, k0, rfl⟩ := own_shape ho
  go_enter Try.func40, Try.ntmps40
  go_wp2_with (at_builtin; refine wpList_append_own _ rfl _ _ 22 rfl base 5 i0 (.int .u8 0) 1 1 Try.underlying22 hi hz0 hz1 hz2 rfl (by decide) _ m xs rfl (ho.alloc _) ⟨w.heap.size, 0, none⟩ 2 2 [.int .u8 (IntKind.u16.wrap n / 256 % 256), .int .u8 (IntKind.u16.wrap n % 256)] rfl rfl ?c1 ?c2 ?c3 ?c4 ?c5 ?_)
  case c1 =>
    intro j u hj
    match j, hj with
    | 0, hj => simp at hj; subst hj; simp [Addr.add]
    | 1, hj => simp at hj; subst hj; simp [Addr.add]
  case c2 => intro u hu; simp at hu; rcases hu with rfl | rfl <;> rfl
  case c3 => unfold maxLen; omega
  case c4 => omega
  case c5 => simp; omega
  intro v' w1 hown hgrow _
  obtain ⟨a1, k1, rfl⟩ := own_shape hown
  have e : [IntKind.u16.wrap n / 256 % 256, IntKind.u16.wrap n % 256] = put2 n := by
    rw [u16_wrap]; simp [put2]; omega
  have R : Hid (w1.ownsRow base 5 1 (.slice a1 (m + 2) k1) (m + 2) (xs ++ (put2 n).map (Value.int .u8)) ∧ w.grownBy w1 (Value.slice a0 m k0).ownBlock) := by
    rw [← e]
    exact ⟨hown, (World.grownBy_alloc w _ _).trans hgrow⟩
  clear e hown hgrow ho
  go_wp2
  go_ret
  exact ⟨_, _, rfl, R.out.1, R.out.2⟩

end Go.Proofs.Ytpdbjjklcejimaa

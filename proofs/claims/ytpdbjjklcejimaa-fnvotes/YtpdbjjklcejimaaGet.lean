/- What GetNumber of the program and of its model do at a list of bytes that can be read, and at whatever place: the same number, the same code. -/
import Derived.Test.YtpdbjjklcejimaaNum
namespace Go.Proofs.Ytpdbjjklcejimaa
open Go.RowKit
set_option linter.unusedVariables false
set_option linter.unusedSimpArgs false

/-- The short number of two bytes. -/
def get2 (x y : Int) : Int := if 256 * x + y ≤ 32767 then 256 * x + y else 256 * x + y - 65536
def getC (zs : List Int) (at_ : Int) : Int := if 0 ≤ at_ ∧ at_ ≤ (zs.length : Int) - 2 then 0 else 3
def getV (zs : List Int) (at_ : Int) : Int := if 0 ≤ at_ ∧ at_ ≤ (zs.length : Int) - 2 then get2 (zs.getD at_.toNat 0) (zs.getD (at_.toNat + 1) 0) else 0

set_option maxHeartbeats 1000000 in
theorem l1Get_any (a : Option Addr) (cap : Nat) (zs : List Int) (j : Nat) (w : World) (h : Row .u8 w a zs) (hu : ∀ i, 0 ≤ zs.getD i 0 ∧ zs.getD i 0 ≤ 255) (hj : j + 1 < zs.length) (hm : zs.length ≤ 9223372036854775807) :
    Calls Try.prog 59 #[.slice a zs.length cap, .int .i64 j] w fun e w' => e = .returned (.int .i64 (get2 (zs.getD j 0) (zs.getD (j + 1) 0))) ∧ ∃ n, w' = w.drewN n := by
  obtain ⟨b, off, rfl, hbs, hc⟩ := h j (by omega)
  obtain ⟨b', off', he, hbs', hc'⟩ := h (j + 1) hj
  simp only [Option.some.injEq, Addr.mk.injEq, and_true] at he
  obtain ⟨rfl, rfl⟩ := he
  have u1 := hu j
  have u2 := hu (j + 1)
  generalize zs.getD j 0 = x at *
  generalize zs.getD (j + 1) 0 = y at *
  by_cases hle : 256 * x + y ≤ 32767
  · have e : get2 x y = 256 * x + y := by simp [get2, hle]
    rw [e]
    clear e
    go_enter Try.func59, Try.ntmps59
    go_wp2
    go_quiet (fail)
    go_wp2
    go_ret
    exact ⟨rfl, _, rfl⟩
  · have e : get2 x y = 256 * x + y - 65536 := by simp [get2, hle]
    rw [e]
    clear e
    go_enter Try.func59, Try.ntmps59
    go_wp2
    go_quiet (fail)
    go_wp2
    go_ret
    exact ⟨rfl, _, rfl⟩

theorem or_bytes (x y : Int) (hx : 0 ≤ x ∧ x ≤ 255) (hy : 0 ≤ y ∧ y ≤ 255) : bits .or .u16 (x * 256) y = x * 256 + y := by
  obtain ⟨p, rfl⟩ := Int.eq_ofNat_of_zero_le hx.1
  obtain ⟨q, rfl⟩ := Int.eq_ofNat_of_zero_le hy.1
  have hp : p ≤ 255 := by omega
  have hq : q < 2 ^ 8 := by omega
  have e := Nat.two_pow_add_eq_or_of_lt hq p
  have e1 : ((p : Int) * 256) = ((2 ^ 8 * p : Nat) : Int) := by omega
  rw [e1]
  simp only [bits, BitVec.toNat_or, BitVec.ofInt_natCast, BitVec.toNat_ofNat]
  have k1 : 2 ^ 8 * p % 2 ^ IntKind.u16.bits = 2 ^ 8 * p := Nat.mod_eq_of_lt (by simp [IntKind.bits]; omega)
  have k2 : q % 2 ^ IntKind.u16.bits = q := Nat.mod_eq_of_lt (by simp [IntKind.bits]; omega)
  rw [k1, k2, ← e, IntWalk.u16_in _ (by omega)]
  omega

theorem i16_wrap (n : Int) : IntKind.i16.wrap n = if n % 65536 ≤ 32767 then n % 65536 else n % 65536 - 65536 := by
  simp [IntKind.wrap, IntKind.bits, IntKind.signed]
  by_cases h : n % 65536 ≤ 32767
  · rw [if_pos h, if_neg (by omega)]
  · rw [if_neg h, if_pos (by omega)]

theorem short_get (x y : Int) (hx : 0 ≤ x ∧ x ≤ 255) (hy : 0 ≤ y ∧ y ≤ 255) : wrap64 (IntKind.i16.wrap (bits .or .u16 (x * 256) y)) = get2 x y := by
  rw [or_bytes x y hx hy]
  have e : IntKind.i16.wrap (x * 256 + y) = get2 x y := by
    rw [i16_wrap, get2]
    by_cases hle : 256 * x + y ≤ 32767
    · rw [if_pos hle, if_pos (by omega)]; omega
    · rw [if_neg hle, if_neg (by omega)]; omega
  rw [e]
  refine IntWalk.wrap64_in _ ?_
  unfold get2
  split <;> omega

set_option maxHeartbeats 1000000 in
theorem shortAt_any (a : Option Addr) (cap : Nat) (zs : List Int) (j : Nat) (w : World) (h : Row .u8 w a zs) (hu : ∀ i, 0 ≤ zs.getD i 0 ∧ zs.getD i 0 ≤ 255) (hj : j + 1 < zs.length) (hm : zs.length ≤ 9223372036854775807) :
    Calls Try.prog 53 #[.slice a zs.length cap, .int .i64 j] w fun e w' => e = .returned (.int .i64 (get2 (zs.getD j 0) (zs.getD (j + 1) 0))) ∧ ∃ n, w' = w.drewN n := by
  obtain ⟨b, off, rfl, hbs, hc⟩ := h j (by omega)
  obtain ⟨b', off', he, hbs', hc'⟩ := h (j + 1) hj
  simp only [Option.some.injEq, Addr.mk.injEq, and_true] at he
  obtain ⟨rfl, rfl⟩ := he
  have u1 := hu j
  have u2 := hu (j + 1)
  generalize zs.getD j 0 = x at *
  generalize zs.getD (j + 1) 0 = y at *
  go_enter Try.func53, Try.ntmps53
  go_wp2
  go_quiet (fail)
  go_wp2
  go_ret
  exact ⟨by simp [short_get x y u1 u2], _, rfl⟩

end Go.Proofs.Ytpdbjjklcejimaa

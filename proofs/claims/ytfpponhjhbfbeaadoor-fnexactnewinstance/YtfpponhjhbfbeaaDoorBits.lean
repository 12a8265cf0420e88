/- What BitsOf of the program and of its model do at whatever mask: the same list of bits, the same code. -/
import Derived.Test.YtfpponhjhbfbeaaDoorNum
namespace Go.Proofs.YtfpponhjhbfbeaaDoor
open Go.RowKit
set_option linter.unusedVariables false
set_option linter.unusedSimpArgs false

theorem infoI64' : (Tryd.prog.info? 2).map (fun i => (i.zero, i.size, i.bytes)) = some (some (.int .i64 0), 1, 8) := by kernel_rfl

/-- Has m the bit k? -/
def bitB (m : Int) (k : Nat) : Bool := decide (m / 2 ^ k % 2 = 1)
/-- The bits of m below k, rising. -/
def bitsL (m : Int) (k : Nat) : List Int := ((List.range k).filter (bitB m)).map fun (i : Nat) => (i : Int)
theorem bitsL_zero (m : Int) : bitsL m 0 = [] := rfl
theorem bitsL_yes (m : Int) (k : Nat) (h : bitB m k = true) : bitsL m (k + 1) = bitsL m k ++ [(k : Int)] := by simp [bitsL, List.range_succ, List.filter_append, h]
theorem bitsL_no (m : Int) (k : Nat) (h : bitB m k = false) : bitsL m (k + 1) = bitsL m k := by simp [bitsL, List.range_succ, List.filter_append, h]
theorem bitsL_le (m : Int) (k : Nat) : (bitsL m k).length ≤ k := by
  have := List.length_filter_le (bitB m) (List.range k)
  simpa [bitsL] using this

theorem bit_rem (m : Int) (k : Nat) (h : 0 ≤ m) : ((m / 2 ^ k).tmod 2 == 1) = bitB m k := by
  have h2 : 0 ≤ m / 2 ^ k := Int.ediv_nonneg h (by exact Int.le_of_lt (Int.pow_pos (by decide)))
  rw [Int.tmod_eq_emod_of_nonneg h2]
  simp [bitB, Bool.beq_eq_decide_eq]

/-- What is told of a mask: its bits, or a code. -/
def bitsC (m : Int) : Int := if 0 ≤ m ∧ m ≤ 65535 then 0 else 3
def bitsR (m : Int) : List Int := if 0 ≤ m ∧ m ≤ 65535 then bitsL m 16 else []
theorem bitsR_le (m : Int) : (bitsR m).length ≤ 16 := by
  unfold bitsR
  split
  · exact bitsL_le m 16
  · simp

theorem and_one (x : Int) (h0 : 0 ≤ x) (h1 : x ≤ 65535) : bits .and .i64 x 1 = x % 2 := by
  obtain ⟨p, rfl⟩ := Int.eq_ofNat_of_zero_le h0
  have e1 : (1 : Int) = ((1 : Nat) : Int) := rfl
  rw [e1]
  simp only [bits, BitVec.toNat_and, BitVec.ofInt_natCast, BitVec.toNat_ofNat]
  have k1 : p % 2 ^ IntKind.i64.bits = p := Nat.mod_eq_of_lt (by simp [IntKind.bits]; omega)
  have k2 : 1 % 2 ^ IntKind.i64.bits = 1 := Nat.mod_eq_of_lt (by simp [IntKind.bits])
  rw [k1, k2, Nat.and_one_is_mod, IntWalk.i64_in _ (by omega)]
  omega

theorem shr_bounds (m : Int) (k : Nat) (h0 : 0 ≤ m) (h1 : m ≤ 65535) : 0 ≤ m / 2 ^ k ∧ m / 2 ^ k ≤ 65535 := by
  refine ⟨Int.ediv_nonneg h0 (Int.le_of_lt (Int.pow_pos (by decide))), ?_⟩
  exact Int.le_trans (Int.ediv_le_self _ h0) h1

theorem bit_and (m : Int) (k : Nat) (h0 : 0 ≤ m) (h1 : m ≤ 65535) : (bits .and .i64 (m / 2 ^ k) 1 == 1) = bitB m k := by
  obtain ⟨a, b⟩ := shr_bounds m k h0 h1
  rw [and_one _ a b]
  simp [bitB, Bool.beq_eq_decide_eq]

end Go.Proofs.YtfpponhjhbfbeaaDoor

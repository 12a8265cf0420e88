/- Chapter 5 in plain words: votes, counts, quorums, what is proposed and what is gone on with. -/
import Derived.Test.YtfpponhjhbfbeaaDoorBits
namespace Go.Proofs.YtfpponhjhbfbeaaDoor
open Go.RowKit
set_option linter.unusedVariables false
set_option linter.unusedSimpArgs false

/-- Is x a vote, by most? -/
def vOk (most x : Int) : Bool := inB x 0 most || x == 3
/-- The fault of a row of votes, by most. -/
def vf (zs : List Int) (most : Int) : Int := if zs.length = 3 then (if zs.all (vOk most) then 0 else 3) else 2
def vfault (zs : List Int) (most : Int) : Int := if inB most 1 2 then vf zs most else 3
/-- The sum of three bits. -/
def sum3 (p q r : Bool) : Int := p.toNat + q.toNat + r.toNat
/-- How many of the low three bits m has. -/
def pop3 (m : Int) : Int := sum3 (bitB m 0) (bitB m 1) (bitB m 2)
/-- How many nodes of m voted v. -/
def cnt (m : Int) (zs : List Int) (v : Int) : Int := sum3 (bitB m 0 && (zs.getD 0 0 == v)) (bitB m 1 && (zs.getD 1 0 == v)) (bitB m 2 && (zs.getD 2 0 == v))
/-- The mask of all that voted v. -/
def vot3 (p q r : Bool) : Int := p.toNat + 2 * q.toNat + 4 * r.toNat
def vot (zs : List Int) (v : Int) : Int := vot3 (zs.getD 0 0 == v) (zs.getD 1 0 == v) (zs.getD 2 0 == v)
def isQ (m : Int) : Bool := inB m 0 7 && decide (2 ≤ pop3 m)
def cvC (zs : List Int) (m v : Int) : Int := if vf zs 2 = 0 then (if inB m 0 7 && inB v 0 3 then 0 else 3) else vf zs 2
def cvV (zs : List Int) (m v : Int) : Int := if cvC zs m v = 0 then cnt m zs v else 0

theorem eight {m : Int} (h : inB m 0 7 = true) : m = 0 ∨ m = 1 ∨ m = 2 ∨ m = 3 ∨ m = 4 ∨ m = 5 ∨ m = 6 ∨ m = 7 := by
  have := of_decide_eq_true h
  omega
theorem three {zs : List Int} (h : zs.length = 3) : ∃ x y z, zs = [x, y, z] := by
  match zs, h with
  | [x, y, z], _ => exact ⟨x, y, z, rfl⟩
theorem vf_len {zs : List Int} {most : Int} (h : vf zs most = 0) : zs.length = 3 := by
  unfold vf at h
  split at h
  · assumption
  · simp at h
theorem vot3_in (p q r : Bool) : inB (vot3 p q r) 0 7 = true := by cases p <;> cases q <;> cases r <;> decide
theorem vot_in (zs : List Int) (v : Int) : inB (vot zs v) 0 7 = true := vot3_in _ _ _
theorem and_vot3 (p q r : Bool) : ∀ m ∈ [(0 : Int), 1, 2, 3, 4, 5, 6, 7], inB (bits .and .i64 m (vot3 p q r)) 0 7 = true ∧ pop3 (bits .and .i64 m (vot3 p q r)) = sum3 (bitB m 0 && p) (bitB m 1 && q) (bitB m 2 && r) ∧ ((bits .and .i64 m (vot3 p q r)) == 0) = (sum3 (bitB m 0 && p) (bitB m 1 && q) (bitB m 2 && r) == 0) := by
  cases p <;> cases q <;> cases r <;> decide +kernel
theorem and_vot {m : Int} (h : inB m 0 7 = true) (zs : List Int) (v : Int) : inB (bits .and .i64 m (vot zs v)) 0 7 = true ∧ pop3 (bits .and .i64 m (vot zs v)) = cnt m zs v ∧ ((bits .and .i64 m (vot zs v)) == 0) = (cnt m zs v == 0) := by
  refine and_vot3 _ _ _ m ?_
  rcases eight h with rfl | rfl | rfl | rfl | rfl | rfl | rfl | rfl <;> simp
theorem sum3_in (p q r : Bool) : 0 ≤ sum3 p q r ∧ sum3 p q r ≤ 3 := by cases p <;> cases q <;> cases r <;> decide
theorem cnt_in (m : Int) (zs : List Int) (v : Int) : 0 ≤ cnt m zs v ∧ cnt m zs v ≤ 3 := sum3_in _ _ _
theorem bits16 {m : Int} (h : inB m 0 7 = true) : ((bitsL m 16).length : Int) = pop3 m := by
  rcases eight h with rfl | rfl | rfl | rfl | rfl | rfl | rfl | rfl <;> decide +kernel

end Go.Proofs.YtfpponhjhbfbeaaDoor

/- TxnFault: the program's function and its model answer alike, by one plain function. No condition. -/
import Derived.Test.YticfbapipdhhmaaD2t
namespace Go.Proofs.Yticfbapipdhhmaa
open Go.RowKit
set_option linter.unusedVariables false
set_option linter.unusedSimpArgs false

def inW (n lo hi : Int) : Bool := decide (lo ≤ n) && decide (n ≤ hi)

def actF (x : ActD) : Int :=
  if (inW x.kind 1 4 = false) ∨ ((x.kind == 3) = true ∧ (x.val != 0) = true) then 1
  else if inW x.key 1 20 = false ∨ inW x.val (-1000) 1000 = false then 3 else 0

def actsF : List ActD → Int
  | [] => 0
  | x :: r => if actF x = 0 then actsF r else actF x

def txnF (i s q : Int) (zs : List ActD) : Int :=
  if inW i 1 200 = false ∨ inW s 1 9 = false ∨ inW q 1 99 = false then 3
  else if zs.length < 1 ∨ 4 < zs.length then 2 else actsF zs

theorem actsF_first (zs : List ActD) : ∀ k, (∀ j, j < k → actF (zs.getD j actNo) = 0) → k < zs.length → actF (zs.getD k actNo) ≠ 0 → actsF zs = actF (zs.getD k actNo) := by
  induction zs with
  | nil => intro k _ h; simp at h
  | cons x r ih =>
    intro k h0 hk hne
    cases k with
    | zero => simp [List.getD] at hne ⊢; simp [actsF, hne]
    | succ k =>
      have hx : actF x = 0 := by simpa [List.getD] using h0 0 (by omega)
      have := ih k (fun j hj => by simpa [List.getD] using h0 (j + 1) (by omega)) (by simpa using hk) (by simpa [List.getD] using hne)
      simp only [actsF, hx, if_true]
      rw [this]
      simp [List.getD]

theorem actsF_none (zs : List ActD) (h : ∀ j, j < zs.length → actF (zs.getD j actNo) = 0) : actsF zs = 0 := by
  induction zs with
  | nil => rfl
  | cons x r ih =>
    have hx : actF x = 0 := by simpa [List.getD] using h 0 (by simp)
    simp only [actsF, hx, if_true]
    exact ih (fun j hj => by simpa [List.getD] using h (j + 1) (by simpa using hj))

/-- The ways through an act's tests. -/
theorem actF_ways (k y v : Int) :
    (inW k 1 4 = false ∧ actF ⟨k, y, v⟩ = 1) ∨ (inW k 1 4 = true ∧ (k == 3) = true ∧ (v != 0) = true ∧ actF ⟨k, y, v⟩ = 1) ∨
    (inW k 1 4 = true ∧ (((k == 3) = true ∧ (v != 0) = false) ∨ (k == 3) = false) ∧
      ((inW y 1 20 = false ∧ actF ⟨k, y, v⟩ = 3) ∨ (inW y 1 20 = true ∧ inW v (-1000) 1000 = false ∧ actF ⟨k, y, v⟩ = 3) ∨ (inW y 1 20 = true ∧ inW v (-1000) 1000 = true ∧ actF ⟨k, y, v⟩ = 0))) := by
  unfold actF
  cases h1 : inW k 1 4 <;> cases h2 : (k == 3) <;> cases h3 : (v != 0) <;> cases h4 : inW y 1 20 <;> cases h5 : inW v (-1000) 1000 <;> simp [h1, h2, h3, h4, h5]

end Go.Proofs.Yticfbapipdhhmaa

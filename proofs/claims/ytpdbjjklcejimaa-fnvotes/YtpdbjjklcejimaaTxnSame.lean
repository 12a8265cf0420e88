/- SameTxns: the program's function and its model answer alike. No condition. -/
import Derived.Test.YtpdbjjklcejimaaD2s
import Derived.Test.YtpdbjjklcejimaaOpen3
import Derived.Laws.StructEq
namespace Go.Proofs.Ytpdbjjklcejimaa
open Go.RowKit
open Go.BigFrame
set_option linter.unusedVariables false
set_option linter.unusedSimpArgs false

def sameA (x y : ActD) : Bool := (x.kind == y.kind) && ((x.key == y.key) && (x.val == y.val))
def sameAs : List ActD → List ActD → Bool
  | [], [] => true
  | x :: r, y :: s => sameA x y && sameAs r s
  | _, _ => false
def sameT (x y : TxnD) : Bool := (x.id == y.id) && (x.session == y.session) && (x.seq == y.seq) && sameAs x.acts y.acts
def sameTs : List TxnD → List TxnD → Bool
  | [], [] => true
  | x :: r, y :: s => sameT x y && sameTs r s
  | _, _ => false

/-- A comparison of two lists, place by place. -/
theorem same_len {α : Type} {f : α → α → Bool} {g : List α → List α → Bool} (h0 : g [] [] = true) (h1 : ∀ x r y s, g (x :: r) (y :: s) = (f x y && g r s)) (h2 : ∀ x r, g (x :: r) [] = false) (h3 : ∀ y s, g [] (y :: s) = false) :
    ∀ a b, a.length ≠ b.length → g a b = false := by
  intro a
  induction a with
  | nil => intro b h; cases b with | nil => simp at h | cons y s => exact h3 y s
  | cons x r ih => intro b h; cases b with | nil => exact h2 x r | cons y s => rw [h1, ih s (by simpa using h)]; simp
theorem same_bad {α : Type} {f : α → α → Bool} {g : List α → List α → Bool} (d : α) (h1 : ∀ x r y s, g (x :: r) (y :: s) = (f x y && g r s)) :
    ∀ a b k, a.length = b.length → k < a.length → f (a.getD k d) (b.getD k d) = false → g a b = false := by
  intro a
  induction a with
  | nil => intro b k _ h; simp at h
  | cons x r ih =>
    intro b k hl hk hf
    cases b with
    | nil => simp at hl
    | cons y s =>
      rw [h1]
      cases k with
      | zero => simp [List.getD] at hf; simp [hf]
      | succ k => rw [ih s k (by simpa using hl) (by simpa using hk) (by simpa [List.getD] using hf)]; simp
theorem same_all {α : Type} {f : α → α → Bool} {g : List α → List α → Bool} (d : α) (h0 : g [] [] = true) (h1 : ∀ x r y s, g (x :: r) (y :: s) = (f x y && g r s)) :
    ∀ a b, a.length = b.length → (∀ k, k < a.length → f (a.getD k d) (b.getD k d) = true) → g a b = true := by
  intro a
  induction a with
  | nil => intro b hl _; cases b with | nil => exact h0 | cons y s => simp at hl
  | cons x r ih =>
    intro b hl hf
    cases b with
    | nil => simp at hl
    | cons y s =>
      rw [h1, ih s (by simpa using hl) (fun k hk => by simpa [List.getD] using hf (k + 1) (by simpa using hk))]
      have := hf 0 (by simp)
      simp [List.getD] at this
      simp [this]

theorem sameT_ways (x y : TxnD) : ((x.id == y.id) = false ∧ sameT x y = false) ∨ ((x.id == y.id) = true ∧ (x.session == y.session) = false ∧ sameT x y = false) ∨ ((x.id == y.id) = true ∧ (x.session == y.session) = true ∧ (x.seq == y.seq) = false ∧ sameT x y = false) ∨
    ((x.id == y.id) = true ∧ (x.session == y.session) = true ∧ (x.seq == y.seq) = true ∧ sameT x y = sameAs x.acts y.acts) := by
  unfold sameT
  cases h1 : (x.id == y.id) <;> cases h2 : (x.session == y.session) <;> cases h3 : (x.seq == y.seq) <;> simp

end Go.Proofs.Ytpdbjjklcejimaa

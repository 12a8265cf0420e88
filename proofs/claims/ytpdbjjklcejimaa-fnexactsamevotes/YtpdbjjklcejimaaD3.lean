/- The struct Item as plain data: when memory reads as a list of them; what the helpers of the laws do on such lists. No condition. -/
import Derived.Test.YtpdbjjklcejimaaD2b
namespace Go.Proofs.Ytpdbjjklcejimaa
open Go.RowKit
open Go.BigFrame
set_option linter.unusedVariables false
set_option linter.unusedSimpArgs false

structure ItemD where
  key : Int
  val : Int
deriving DecidableEq
def itemNo : ItemD := ⟨0, 0⟩
def ItemD.cells (x : ItemD) : List Value := [.int .i64 x.key, .int .i64 x.val]
def itemCells (xs : List ItemD) : List Value := xs.flatMap ItemD.cells
def ItemRow (w : World) (a : Option Addr) (xs : List ItemD) : Prop := Lies w a (itemCells xs)

theorem itemCells_length (xs : List ItemD) : (itemCells xs).length = xs.length * 2 := by
  induction xs with
  | nil => rfl
  | cons x xs ih => simp only [itemCells, List.flatMap_cons, List.length_append, List.length_cons] at ih ⊢; rw [ih]; simp [ItemD.cells]; omega

theorem itemCells_append (xs ys : List ItemD) : itemCells (xs ++ ys) = itemCells xs ++ itemCells ys := by simp [itemCells]

theorem itemCells_one (x : ItemD) : itemCells [x] = x.cells := by simp [itemCells]

theorem itemCells_get (xs : List ItemD) : ∀ (i : Nat), i < xs.length → (itemCells xs)[i * 2]? = some (.int .i64 (xs.getD i itemNo).key) ∧ (itemCells xs)[i * 2 + 1]? = some (.int .i64 (xs.getD i itemNo).val) := by
  induction xs with
  | nil => intro i h; simp at h
  | cons x xs ih =>
    intro i h
    cases i with
    | zero => simp [itemCells, ItemD.cells]
    | succ i =>
      have e : itemCells (x :: xs) = x.cells ++ itemCells xs := rfl
      have hl : x.cells.length = 2 := rfl
      obtain ⟨h1, h2⟩ := ih i (by simpa using h)
      rw [e, List.getElem?_append_right (by omega), List.getElem?_append_right (by omega), hl, show (i + 1) * 2 - 2 = i * 2 by omega, show (i + 1) * 2 + 1 - 2 = i * 2 + 1 by omega]
      simpa [List.getD] using ⟨h1, h2⟩

theorem ItemRow.below {w w' : World} {a : Option Addr} {xs : List ItemD} (h : ItemRow w a xs) (hb : Below w.heap.size w w') : ItemRow w' a xs := Lies.below h hb

theorem ItemRow.at {w : World} {a : Option Addr} {xs : List ItemD} (h : ItemRow w a xs) (i : Nat) (hi : i < xs.length) :
    ∃ b off, a = some ⟨b, off, none⟩ ∧ b < w.heap.size ∧ w.cell? ⟨b, off + i * 2, none⟩ = some (.int .i64 (xs.getD i itemNo).key) ∧ w.cell? ⟨b, off + i * 2 + 1, none⟩ = some (.int .i64 (xs.getD i itemNo).val) := by
  obtain ⟨h1, h2⟩ := itemCells_get xs i hi
  rcases h with h | ⟨b, off, ha, hlt, hc⟩
  · have := itemCells_length xs
    rw [h] at this
    simp at this
    omega
  · exact ⟨b, off, ha, hlt, hc _ _ h1, by rw [Nat.add_assoc]; exact hc _ _ h2⟩

/-- The cells of one element are written over. -/
theorem layItem {w : World} {base e g cap n k : Nat} {zs ys : List Value} {v0 v1 : Value} (ho : w.ownsRow base e 2 (.slice (some ⟨g, 0, none⟩) n cap) n (layV zs ys (k * 2)))
    (hl : ys.length = zs.length) (hz : zs.length = n * 2) (hk : k < n) (g0 : zs[k * 2]? = some v0) (g1 : zs[k * 2 + 1]? = some v1) :
    ((w.setCell ⟨g, k * 2, none⟩ v0).setCell ⟨g, k * 2 + 1, none⟩ v1).ownsRow base e 2 (.slice (some ⟨g, 0, none⟩) n cap) n (layV zs ys ((k + 1) * 2)) ∧
    (w.frozen? ⟨g, k * 2, none⟩ = false ∧ w.frozen? ⟨g, k * 2 + 1, none⟩ = false) ∧
    ((∃ u, w.cell? ⟨g, k * 2, none⟩ = some u) ∧ (∃ u, w.cell? ⟨g, k * 2 + 1, none⟩ = some u)) ∧
    (∀ B a, Below B a w → B ≤ g → Below B a ((w.setCell ⟨g, k * 2, none⟩ v0).setCell ⟨g, k * 2 + 1, none⟩ v1)) := by
  have hc : ∀ j, j < n * 2 → ∃ u, w.cell? ⟨g, j, none⟩ = some u := fun j hj => by
    rw [ho.cellAt j hj]
    exact ⟨_, List.getElem?_eq_getElem (by rw [ho.1]; exact hj)⟩
  have s0 := (ho.stored (k * 2) v0).1
  rw [layV_step _ _ _ _ hl g0] at s0
  have s1 := (s0.stored (k * 2 + 1) v1).1
  rw [layV_step _ _ _ _ hl g1, show k * 2 + 1 + 1 = (k + 1) * 2 by omega] at s1
  exact ⟨s1, ⟨ho.frozenAt _, ho.frozenAt _⟩, ⟨hc _ (by omega), hc _ (by omega)⟩, fun B a h hB => ((h.setCell hB _).setCell hB _)⟩

theorem grownItem {w wr : World} {g k : Nat} {v0 v1 : Value} (h : w.grownBy wr (some g)) : w.grownBy ((wr.setCell ⟨g, k, none⟩ v0).setCell ⟨g, k + 1, none⟩ v1) (some g) := by
  have one : ∀ (u : World) (j : Nat) (v : Value), w.grownBy u (some g) → w.grownBy (u.setCell ⟨g, j, none⟩ v) (some g) := fun u j v h =>
    ⟨h.os, h.tape, h.output, by simpa [World.setCell] using h.size, fun i hi hne => by rw [Below.heap_setCell _ _ _ _ (by intro e; apply hne; simp [e])]; exact h.block i hi hne⟩
  exact (one _ _ _ (one _ _ _ h))

/-- Marks, 2 cells an element. -/
def itemMarks (c : Int) (n : Nat) : List ItemD := (List.range n).map fun (i : Nat) => ⟨c + ((i * 2 : Nat) : Int), c + ((i * 2 + 1 : Nat) : Int)⟩
theorem itemMarks_length (c : Int) (n : Nat) : (itemMarks c n).length = n := by simp [itemMarks]
theorem itemMarks_getD (c : Int) (n i : Nat) (h : i < n) : (itemMarks c n).getD i itemNo = ⟨c + ((i * 2 : Nat) : Int), c + ((i * 2 + 1 : Nat) : Int)⟩ := by simp [itemMarks, List.getD, h]

end Go.Proofs.Ytpdbjjklcejimaa

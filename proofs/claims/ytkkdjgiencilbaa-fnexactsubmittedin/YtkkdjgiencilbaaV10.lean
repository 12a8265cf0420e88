/- The struct Vote as plain data: when memory reads as a list of them; what the helpers of the laws do on such lists. No condition. -/
import Derived.Test.YtkkdjgiencilbaaD2b
namespace Go.Proofs.Ytkkdjgiencilbaa
open Go.RowKit
open Go.BigFrame
set_option linter.unusedVariables false
set_option linter.unusedSimpArgs false

structure VoteD where
  kind : Int
  round : Int
  node : Int
  value : Int
deriving DecidableEq
def voteNo : VoteD := ⟨0, 0, 0, 0⟩
def VoteD.cells (x : VoteD) : List Value := [.int .i64 x.kind, .int .i64 x.round, .int .i64 x.node, .int .i64 x.value]
def voteCells (xs : List VoteD) : List Value := xs.flatMap VoteD.cells
def VoteRow (w : World) (a : Option Addr) (xs : List VoteD) : Prop := Lies w a (voteCells xs)

theorem voteCells_length (xs : List VoteD) : (voteCells xs).length = xs.length * 4 := by
  induction xs with
  | nil => rfl
  | cons x xs ih => simp only [voteCells, List.flatMap_cons, List.length_append, List.length_cons] at ih ⊢; rw [ih]; simp [VoteD.cells]; omega

theorem voteCells_append (xs ys : List VoteD) : voteCells (xs ++ ys) = voteCells xs ++ voteCells ys := by simp [voteCells]

theorem voteCells_one (x : VoteD) : voteCells [x] = x.cells := by simp [voteCells]

theorem voteCells_get (xs : List VoteD) : ∀ (i : Nat), i < xs.length → (voteCells xs)[i * 4]? = some (.int .i64 (xs.getD i voteNo).kind) ∧ (voteCells xs)[i * 4 + 1]? = some (.int .i64 (xs.getD i voteNo).round) ∧ (voteCells xs)[i * 4 + 2]? = some (.int .i64 (xs.getD i voteNo).node) ∧ (voteCells xs)[i * 4 + 3]? = some (.int .i64 (xs.getD i voteNo).value) := by
  induction xs with
  | nil => intro i h; simp at h
  | cons x xs ih =>
    intro i h
    cases i with
    | zero => simp [voteCells, VoteD.cells]
    | succ i =>
      have e : voteCells (x :: xs) = x.cells ++ voteCells xs := rfl
      have hl : x.cells.length = 4 := rfl
      obtain ⟨h1, h2, h3, h4⟩ := ih i (by simpa using h)
      rw [e, List.getElem?_append_right (by omega), List.getElem?_append_right (by omega), List.getElem?_append_right (by omega), List.getElem?_append_right (by omega), hl, show (i + 1) * 4 - 4 = i * 4 by omega, show (i + 1) * 4 + 1 - 4 = i * 4 + 1 by omega, show (i + 1) * 4 + 2 - 4 = i * 4 + 2 by omega, show (i + 1) * 4 + 3 - 4 = i * 4 + 3 by omega]
      simpa [List.getD] using ⟨h1, h2, h3, h4⟩

theorem VoteRow.below {w w' : World} {a : Option Addr} {xs : List VoteD} (h : VoteRow w a xs) (hb : Below w.heap.size w w') : VoteRow w' a xs := Lies.below h hb

theorem VoteRow.at {w : World} {a : Option Addr} {xs : List VoteD} (h : VoteRow w a xs) (i : Nat) (hi : i < xs.length) :
    ∃ b off, a = some ⟨b, off, none⟩ ∧ b < w.heap.size ∧ w.cell? ⟨b, off + i * 4, none⟩ = some (.int .i64 (xs.getD i voteNo).kind) ∧ w.cell? ⟨b, off + i * 4 + 1, none⟩ = some (.int .i64 (xs.getD i voteNo).round) ∧ w.cell? ⟨b, off + i * 4 + 2, none⟩ = some (.int .i64 (xs.getD i voteNo).node) ∧ w.cell? ⟨b, off + i * 4 + 3, none⟩ = some (.int .i64 (xs.getD i voteNo).value) := by
  obtain ⟨h1, h2, h3, h4⟩ := voteCells_get xs i hi
  rcases h with h | ⟨b, off, ha, hlt, hc⟩
  · have := voteCells_length xs
    rw [h] at this
    simp at this
    omega
  · exact ⟨b, off, ha, hlt, hc _ _ h1, by rw [Nat.add_assoc]; exact hc _ _ h2, by rw [Nat.add_assoc]; exact hc _ _ h3, by rw [Nat.add_assoc]; exact hc _ _ h4⟩

theorem infoVote : (Try.prog.info? 46).map (fun i => (i.zero, i.size, i.bytes)) = some (some (.agg #[.int .i64 0, .int .i64 0, .int .i64 0, .int .i64 0]), 4, 32) := by kernel_rfl

set_option maxHeartbeats 1000000 in
theorem toVote_any (k : Int) (y : Int) (v : Int) (u : Int) (w : World) :
    Calls Try.prog 41 #[.agg #[.int .i64 k, .int .i64 y, .int .i64 v, .int .i64 u]] w fun e w' => e = .returned (.agg #[.int .i64 k, .int .i64 y, .int .i64 v, .int .i64 u]) ∧ Below w.heap.size w w' := by
  go_enter Try.func41, Try.ntmps41
  go_wp2
  exact bodyPost_ret (v := .agg #[.int .i64 k, .int .i64 y, .int .i64 v, .int .i64 u]) (by simp [results, Try.results41, go_sem]) rfl ⟨rfl, by go_grown⟩

/-- The cells of one element are written over. -/
theorem layVote {w : World} {base e g cap n k : Nat} {zs ys : List Value} {v0 v1 v2 v3 : Value} (ho : w.ownsRow base e 4 (.slice (some ⟨g, 0, none⟩) n cap) n (layV zs ys (k * 4)))
    (hl : ys.length = zs.length) (hz : zs.length = n * 4) (hk : k < n) (g0 : zs[k * 4]? = some v0) (g1 : zs[k * 4 + 1]? = some v1) (g2 : zs[k * 4 + 2]? = some v2) (g3 : zs[k * 4 + 3]? = some v3) :
    ((((w.setCell ⟨g, k * 4, none⟩ v0).setCell ⟨g, k * 4 + 1, none⟩ v1).setCell ⟨g, k * 4 + 2, none⟩ v2).setCell ⟨g, k * 4 + 3, none⟩ v3).ownsRow base e 4 (.slice (some ⟨g, 0, none⟩) n cap) n (layV zs ys ((k + 1) * 4)) ∧
    (w.frozen? ⟨g, k * 4, none⟩ = false ∧ w.frozen? ⟨g, k * 4 + 1, none⟩ = false ∧ w.frozen? ⟨g, k * 4 + 2, none⟩ = false ∧ w.frozen? ⟨g, k * 4 + 3, none⟩ = false) ∧
    ((∃ u, w.cell? ⟨g, k * 4, none⟩ = some u) ∧ (∃ u, w.cell? ⟨g, k * 4 + 1, none⟩ = some u) ∧ (∃ u, w.cell? ⟨g, k * 4 + 2, none⟩ = some u) ∧ (∃ u, w.cell? ⟨g, k * 4 + 3, none⟩ = some u)) ∧
    (∀ B a, Below B a w → B ≤ g → Below B a ((((w.setCell ⟨g, k * 4, none⟩ v0).setCell ⟨g, k * 4 + 1, none⟩ v1).setCell ⟨g, k * 4 + 2, none⟩ v2).setCell ⟨g, k * 4 + 3, none⟩ v3)) := by
  have hc : ∀ j, j < n * 4 → ∃ u, w.cell? ⟨g, j, none⟩ = some u := fun j hj => by
    rw [ho.cellAt j hj]
    exact ⟨_, List.getElem?_eq_getElem (by rw [ho.1]; exact hj)⟩
  have s0 := (ho.stored (k * 4) v0).1
  rw [layV_step _ _ _ _ hl g0] at s0
  have s1 := (s0.stored (k * 4 + 1) v1).1
  rw [layV_step _ _ _ _ hl g1] at s1
  have s2 := (s1.stored (k * 4 + 2) v2).1
  rw [layV_step _ _ _ _ hl g2] at s2
  have s3 := (s2.stored (k * 4 + 3) v3).1
  rw [layV_step _ _ _ _ hl g3, show k * 4 + 3 + 1 = (k + 1) * 4 by omega] at s3
  exact ⟨s3, ⟨ho.frozenAt _, ho.frozenAt _, ho.frozenAt _, ho.frozenAt _⟩, ⟨hc _ (by omega), hc _ (by omega), hc _ (by omega), hc _ (by omega)⟩, fun B a h hB => ((((h.setCell hB _).setCell hB _).setCell hB _).setCell hB _)⟩

set_option maxHeartbeats 1000000 in
theorem eqVote_true (k : Int) (y : Int) (v : Int) (u : Int) (w : World) :
    Calls Try.prog 46 #[.agg #[.int .i64 k, .int .i64 y, .int .i64 v, .int .i64 u], .agg #[.int .i64 k, .int .i64 y, .int .i64 v, .int .i64 u]] w fun e w' => e = .returned (.bool true) ∧ Below w.heap.size w w' := by
  have h0 : (k != k) = false := by simp
  have h1 : (y != y) = false := by simp
  have h2 : (v != v) = false := by simp
  have h3 : (u != u) = false := by simp
  go_enter Try.func46, Try.ntmps46
  go_wp2
  go_ret
  exact ⟨rfl, by go_grown⟩

theorem grownVote {w wr : World} {g k : Nat} {v0 v1 v2 v3 : Value} (h : w.grownBy wr (some g)) : w.grownBy ((((wr.setCell ⟨g, k, none⟩ v0).setCell ⟨g, k + 1, none⟩ v1).setCell ⟨g, k + 2, none⟩ v2).setCell ⟨g, k + 3, none⟩ v3) (some g) := by
  have one : ∀ (u : World) (j : Nat) (v : Value), w.grownBy u (some g) → w.grownBy (u.setCell ⟨g, j, none⟩ v) (some g) := fun u j v h =>
    ⟨h.os, h.tape, h.output, by simpa [World.setCell] using h.size, fun i hi hne => by rw [Below.heap_setCell _ _ _ _ (by intro e; apply hne; simp [e])]; exact h.block i hi hne⟩
  exact (one _ _ _ (one _ _ _ (one _ _ _ (one _ _ _ h))))

/-- Marks, 4 cells an element. -/
def voteMarks (c : Int) (n : Nat) : List VoteD := (List.range n).map fun (i : Nat) => ⟨c + ((i * 4 : Nat) : Int), c + ((i * 4 + 1 : Nat) : Int), c + ((i * 4 + 2 : Nat) : Int), c + ((i * 4 + 3 : Nat) : Int)⟩
theorem voteMarks_length (c : Int) (n : Nat) : (voteMarks c n).length = n := by simp [voteMarks]
theorem voteMarks_getD (c : Int) (n i : Nat) (h : i < n) : (voteMarks c n).getD i voteNo = ⟨c + ((i * 4 : Nat) : Int), c + ((i * 4 + 1 : Nat) : Int), c + ((i * 4 + 2 : Nat) : Int), c + ((i * 4 + 3 : Nat) : Int)⟩ := by simp [voteMarks, List.getD, h]

end Go.Proofs.Ytkkdjgiencilbaa

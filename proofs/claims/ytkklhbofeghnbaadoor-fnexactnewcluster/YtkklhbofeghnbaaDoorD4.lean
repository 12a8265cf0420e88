/- The struct Undo as plain data: when memory reads as a list of them; what the helpers of the laws do on such lists. No condition. -/
import Derived.Test.YtkklhbofeghnbaaDoorJA
namespace Go.Proofs.YtkklhbofeghnbaaDoor
open Go.RowKit
open Go.BigFrame
set_option linter.unusedVariables false
set_option linter.unusedSimpArgs false

structure UndoD where
  key : Int
  was : Bool
  val : Int
deriving DecidableEq
def undoNo : UndoD := ⟨0, false, 0⟩
def UndoD.cells (x : UndoD) : List Value := [.int .i64 x.key, .bool x.was, .int .i64 x.val]
def undoCells (xs : List UndoD) : List Value := xs.flatMap UndoD.cells
def UndoRow (w : World) (a : Option Addr) (xs : List UndoD) : Prop := Lies w a (undoCells xs)

theorem undoCells_length (xs : List UndoD) : (undoCells xs).length = xs.length * 3 := by
  induction xs with
  | nil => rfl
  | cons x xs ih => simp only [undoCells, List.flatMap_cons, List.length_append, List.length_cons] at ih ⊢; rw [ih]; simp [UndoD.cells]; omega

theorem undoCells_append (xs ys : List UndoD) : undoCells (xs ++ ys) = undoCells xs ++ undoCells ys := by simp [undoCells]

theorem undoCells_one (x : UndoD) : undoCells [x] = x.cells := by simp [undoCells]

theorem undoCells_get (xs : List UndoD) : ∀ (i : Nat), i < xs.length → (undoCells xs)[i * 3]? = some (.int .i64 (xs.getD i undoNo).key) ∧ (undoCells xs)[i * 3 + 1]? = some (.bool (xs.getD i undoNo).was) ∧ (undoCells xs)[i * 3 + 2]? = some (.int .i64 (xs.getD i undoNo).val) := by
  induction xs with
  | nil => intro i h; simp at h
  | cons x xs ih =>
    intro i h
    cases i with
    | zero => simp [undoCells, UndoD.cells]
    | succ i =>
      have e : undoCells (x :: xs) = x.cells ++ undoCells xs := rfl
      have hl : x.cells.length = 3 := rfl
      obtain ⟨h1, h2, h3⟩ := ih i (by simpa using h)
      rw [e, List.getElem?_append_right (by omega), List.getElem?_append_right (by omega), List.getElem?_append_right (by omega), hl, show (i + 1) * 3 - 3 = i * 3 by omega, show (i + 1) * 3 + 1 - 3 = i * 3 + 1 by omega, show (i + 1) * 3 + 2 - 3 = i * 3 + 2 by omega]
      simpa [List.getD] using ⟨h1, h2, h3⟩

theorem UndoRow.below {w w' : World} {a : Option Addr} {xs : List UndoD} (h : UndoRow w a xs) (hb : Below w.heap.size w w') : UndoRow w' a xs := Lies.below h hb

theorem UndoRow.at {w : World} {a : Option Addr} {xs : List UndoD} (h : UndoRow w a xs) (i : Nat) (hi : i < xs.length) :
    ∃ b off, a = some ⟨b, off, none⟩ ∧ b < w.heap.size ∧ w.cell? ⟨b, off + i * 3, none⟩ = some (.int .i64 (xs.getD i undoNo).key) ∧ w.cell? ⟨b, off + i * 3 + 1, none⟩ = some (.bool (xs.getD i undoNo).was) ∧ w.cell? ⟨b, off + i * 3 + 2, none⟩ = some (.int .i64 (xs.getD i undoNo).val) := by
  obtain ⟨h1, h2, h3⟩ := undoCells_get xs i hi
  rcases h with h | ⟨b, off, ha, hlt, hc⟩
  · have := undoCells_length xs
    rw [h] at this
    simp at this
    omega
  · exact ⟨b, off, ha, hlt, hc _ _ h1, by rw [Nat.add_assoc]; exact hc _ _ h2, by rw [Nat.add_assoc]; exact hc _ _ h3⟩

theorem infoUndo : (Tryd.prog.info? 103).map (fun i => (i.zero, i.size, i.bytes)) = some (some (.agg #[.int .i64 0, .bool false, .int .i64 0]), 3, 24) := by kernel_rfl

/-- The cells of one element are written over. -/
theorem layUndo {w : World} {base e g cap n k : Nat} {zs ys : List Value} {v0 v1 v2 : Value} (ho : w.ownsRow base e 3 (.slice (some ⟨g, 0, none⟩) n cap) n (layV zs ys (k * 3)))
    (hl : ys.length = zs.length) (hz : zs.length = n * 3) (hk : k < n) (g0 : zs[k * 3]? = some v0) (g1 : zs[k * 3 + 1]? = some v1) (g2 : zs[k * 3 + 2]? = some v2) :
    (((w.setCell ⟨g, k * 3, none⟩ v0).setCell ⟨g, k * 3 + 1, none⟩ v1).setCell ⟨g, k * 3 + 2, none⟩ v2).ownsRow base e 3 (.slice (some ⟨g, 0, none⟩) n cap) n (layV zs ys ((k + 1) * 3)) ∧
    (w.frozen? ⟨g, k * 3, none⟩ = false ∧ w.frozen? ⟨g, k * 3 + 1, none⟩ = false ∧ w.frozen? ⟨g, k * 3 + 2, none⟩ = false) ∧
    ((∃ u, w.cell? ⟨g, k * 3, none⟩ = some u) ∧ (∃ u, w.cell? ⟨g, k * 3 + 1, none⟩ = some u) ∧ (∃ u, w.cell? ⟨g, k * 3 + 2, none⟩ = some u)) ∧
    (∀ B a, Below B a w → B ≤ g → Below B a (((w.setCell ⟨g, k * 3, none⟩ v0).setCell ⟨g, k * 3 + 1, none⟩ v1).setCell ⟨g, k * 3 + 2, none⟩ v2)) := by
  have hc : ∀ j, j < n * 3 → ∃ u, w.cell? ⟨g, j, none⟩ = some u := fun j hj => by
    rw [ho.cellAt j hj]
    exact ⟨_, List.getElem?_eq_getElem (by rw [ho.1]; exact hj)⟩
  have s0 := (ho.stored (k * 3) v0).1
  rw [layV_step _ _ _ _ hl g0] at s0
  have s1 := (s0.stored (k * 3 + 1) v1).1
  rw [layV_step _ _ _ _ hl g1] at s1
  have s2 := (s1.stored (k * 3 + 2) v2).1
  rw [layV_step _ _ _ _ hl g2, show k * 3 + 2 + 1 = (k + 1) * 3 by omega] at s2
  exact ⟨s2, ⟨ho.frozenAt _, ho.frozenAt _, ho.frozenAt _⟩, ⟨hc _ (by omega), hc _ (by omega), hc _ (by omega)⟩, fun B a h hB => (((h.setCell hB _).setCell hB _).setCell hB _)⟩

set_option maxHeartbeats 1000000 in
theorem eqUndo_true (k : Int) (y : Bool) (v : Int) (w : World) :
    Calls Tryd.prog 59 #[.agg #[.int .i64 k, .bool y, .int .i64 v], .agg #[.int .i64 k, .bool y, .int .i64 v]] w fun e w' => e = .returned (.bool true) ∧ Below w.heap.size w w' := by
  have h0 : (k != k) = false := by simp
  have h1 : (y != y) = false := by simp
  have h2 : (v != v) = false := by simp
  go_enter Tryd.func59, Tryd.ntmps59
  go_wp2
  go_ret
  exact ⟨rfl, by go_grown⟩

set_option maxHeartbeats 2000000 in
theorem eqUndoS_true (a a' : Option Addr) (cap cap' : Nat) (zs : List UndoD) (w : World) (h : UndoRow w a zs) (h' : UndoRow w a' zs) (hl : zs.length ≤ 1099511627776) :
    Calls Tryd.prog 57 #[.slice a zs.length cap, .slice a' zs.length cap'] w fun e w' => e = .returned (.bool true) ∧ Below w.heap.size w w' := by
  go_enter Tryd.func57, Tryd.ntmps57
  go_wp2
  go_loopw [5] (fun i wr => ∃ k : Nat, k ≤ zs.length ∧ i = .int .i64 k ∧ Below w.heap.size w wr) (fun i _ => zs.length - (intOf i).toNat)
  case atStart => exact ⟨0, Nat.zero_le _, rfl, Below.refl _ _⟩
  case round =>
    obtain ⟨k, hk, rfl, hb⟩ := hrel
    by_cases hlt : k < zs.length
    · obtain ⟨b, off, rfl, hbs, hc0, hc1, hc2⟩ := (h.below hb).at k hlt
      obtain ⟨b', off', rfl, hbs', hd0, hd1, hd2⟩ := (h'.below hb).at k hlt
      generalize zs.getD k undoNo = z at hc0 hc1 hc2 hd0 hd1 hd2
      obtain ⟨z0, z1, z2⟩ := z
      have k0 := lat_cell hc0
      have l0 := lat_cell hd0
      have k1 := lat_cell hc1
      have l1 := lat_cell hd1
      have k2 := lat_cell hc2
      have l2 := lat_cell hd2
      clear hc0 hc1 hc2 hd0 hd1 hd2
      have hW : Below wr.heap.size wr wr.drew := (Below.refl _ _).drew
      have hne : Nonempty (Lat wr) := ⟨⟨wr, Below.refl _ _⟩⟩
      go_wp2_with fail
      refine text_begin (S := fun w' => ∃ u : Lat wr, w' = u.val) (by kernel_rfl) ?_
      refine sgr [(0, 8)] 2 (by kernel_rfl) ⟨⟨_, hW⟩, rfl⟩ ?_
      simp only [pkE]
      repeat go_big_quiet_step (fail)
      refine wpQuiet_nil ?_
      refine cla 8 (some 25) 59 #[.agg #[.int .i64 z0, .bool z1, .int .i64 z2], .agg #[.int .i64 z0, .bool z1, .int .i64 z2]] 1 (by kernel_rfl) ?_
      refine (eqUndo_true _ _ _ _).mono ?_
      rintro e w2 ⟨rfl, hb2⟩
      replace hW := hW.trans (hb2.mono hW.size)
      clear hb2
      refine ⟨_, rfl, ⟨⟨_, hW⟩, rfl⟩, ?_⟩
      simp only [Act.put, pjE]
      refine sgr [(9, 1)] 0 (by kernel_rfl) ⟨⟨_, hW⟩, rfl⟩ ?_
      simp only [pkE]
      repeat go_big_quiet_step (fail)
      refine wpQuiet_nil ?_
      refine text_end (by kernel_rfl) ?_
      replace hb := hb.trans (hW.mono hb.size)
      clear k0 l0 k1 l1 k2 l2 hW hne
      go_wp2
      go_roundw
      case rel => exact ⟨k + 1, by omega, by go_num, hb⟩
      case measure => simp [intOf]; omega
    · go_wp2
      go_ret
      exact ⟨rfl, hb⟩

theorem grownUndo {w wr : World} {g k : Nat} {v0 v1 v2 : Value} (h : w.grownBy wr (some g)) : w.grownBy (((wr.setCell ⟨g, k, none⟩ v0).setCell ⟨g, k + 1, none⟩ v1).setCell ⟨g, k + 2, none⟩ v2) (some g) := by
  have one : ∀ (u : World) (j : Nat) (v : Value), w.grownBy u (some g) → w.grownBy (u.setCell ⟨g, j, none⟩ v) (some g) := fun u j v h =>
    ⟨h.os, h.tape, h.output, by simpa [World.setCell] using h.size, fun i hi hne => by rw [Below.heap_setCell _ _ _ _ (by intro e; apply hne; simp [e])]; exact h.block i hi hne⟩
  exact (one _ _ _ (one _ _ _ (one _ _ _ h)))

/-- Marks, 3 cells an element. -/
def undoMarks (c : Int) (n : Nat) : List UndoD := (List.range n).map fun (i : Nat) => ⟨c + ((i * 3 : Nat) : Int), ((c + ((i * 3 + 1 : Nat) : Int)) % 3 == 0), c + ((i * 3 + 2 : Nat) : Int)⟩
theorem undoMarks_length (c : Int) (n : Nat) : (undoMarks c n).length = n := by simp [undoMarks]
theorem undoMarks_getD (c : Int) (n i : Nat) (h : i < n) : (undoMarks c n).getD i undoNo = ⟨c + ((i * 3 : Nat) : Int), ((c + ((i * 3 + 1 : Nat) : Int)) % 3 == 0), c + ((i * 3 + 2 : Nat) : Int)⟩ := by simp [undoMarks, List.getD, h]

set_option maxHeartbeats 2000000 in
theorem markUndoS_any (base : Nat) (v : Value) (n : Nat) (xs : List Value) (c : Int) (w : World) (h : w.ownsRow base 103 3 v n xs) (hn : n ≤ 1099511627776) (h0 : 0 ≤ c) (h1 : c ≤ 1099511627776) :
    Calls Tryd.prog 47 #[v, .int .i64 c] w fun e w' => e = .returned (.int .i64 (c + ((n * 3 : Nat) : Int))) ∧ w'.ownsRow base 103 3 v n (undoCells (undoMarks c n)) ∧ w.grownBy w' v.ownBlock := by
  rcases h.2 with ⟨rfl, rfl⟩ | ⟨g, cap, cur, rfl, hb, hg, r⟩
  · go_enter Tryd.func47, Tryd.ntmps47
    go_wp2
    refine wp_loop_rounds 1 ?_
    rw [rounds_succ]
    go_wp2
    go_ret
    exact ⟨by simp, World.ownsRow_nil _ _ _ _, World.grownBy.refl _ _⟩
  · clear hg r
    have hml := undoCells_length (undoMarks c n)
    rw [undoMarks_length] at hml
    have hxl : xs.length = (undoCells (undoMarks c n)).length := by rw [hml]; exact h.1
    rw [← layV_zero (undoCells (undoMarks c n)) xs] at h
    go_enter Tryd.func47, Tryd.ntmps47
    go_wp2
    go_loopw [1, 5] (fun j i wr => ∃ k : Nat, k ≤ n ∧ j = .int .i64 (c + ((k * 3 : Nat) : Int)) ∧ i = .int .i64 k ∧ wr.ownsRow base 103 3 (.slice (some ⟨g, 0, none⟩) n cap) n (layV (undoCells (undoMarks c n)) xs (k * 3)) ∧ w.grownBy wr (some g)) (fun _ i _ => n - (intOf i).toNat)
    case atStart => exact ⟨0, Nat.zero_le _, by simp, rfl, by simpa using h, World.grownBy.refl _ _⟩
    case round =>
      obtain ⟨k, hk, rfl, rfl, ho, hgr⟩ := hrel
      by_cases hlt : k < n
      · obtain ⟨g0, g1, g2⟩ := undoCells_get (undoMarks c n) k (by rw [undoMarks_length]; exact hlt)
        rw [undoMarks_getD _ _ _ hlt] at g0 g1 g2
        obtain ⟨hst, ⟨f0, f1, f2⟩, ⟨⟨u0, e0⟩, ⟨u1, e1⟩, ⟨u2, e2⟩⟩, _⟩ := layUndo ho hxl hml hlt g0 g1 g2
        have hgr2 := grownUndo hgr (g := g) (k := k * 3) (v0 := .int .i64 (c + ((k * 3 : Nat) : Int))) (v1 := .bool (((c + ((k * 3 + 1 : Nat) : Int)) % 3 == 0))) (v2 := .int .i64 (c + ((k * 3 + 2 : Nat) : Int)))
        have R : Hid (_ ∧ _) := ⟨hst, hgr2⟩
        have e01 : c + ((k * 3 + 1 : Nat) : Int) = c + ((k * 3 : Nat) : Int) + 1 := by omega
        have e02 : c + ((k * 3 + 2 : Nat) : Int) = c + ((k * 3 : Nat) : Int) + 1 + 1 := by omega
        have e99 : Hid (c + (((k + 1) * 3 : Nat) : Int) = c + ((k * 3 : Nat) : Int) + 1 + 1 + 1) := show _ = _ by omega
        rw [e01, e02] at R
        clear hst hgr2 g0 g1 g2 ho hgr e01 e02
        generalize hy : ((k * 3 : Nat) : Int) = y at R e99
        have hy1 : y ≤ 3298534883328 := by omega
        have hy0 : 0 ≤ y := by omega
        clear hy
        go_wp2
        go_roundw
        case rel => exact ⟨k + 1, by omega, by rw [e99.out], by go_num, R.out.1, R.out.2⟩
        case measure => simp [intOf]; omega
      · go_wp2
        go_ret
        have hkl : k = n := by omega
        subst hkl
        rw [layV_all _ _ _ hxl hml] at ho
        exact ⟨rfl, ho, hgr⟩

set_option maxHeartbeats 2000000 in
theorem heldUndoS_true (a : Option Addr) (n cap : Nat) (c : Int) (w : World) (h : UndoRow w a (undoMarks c n)) (hn : n ≤ 1099511627776) (h0 : 0 ≤ c) (h1 : c ≤ 1099511627776) :
    Calls Tryd.prog 49 #[.slice a n cap, .int .i64 c] w fun e w' => e = .returned (.int .i64 (c + ((n * 3 : Nat) : Int))) ∧ w' = w := by
  go_enter Tryd.func49, Tryd.ntmps49
  go_wp2
  go_loop [1, 5] (fun j i => ∃ k : Nat, k ≤ n ∧ j = .int .i64 (c + ((k * 3 : Nat) : Int)) ∧ i = .int .i64 k) (fun _ i => n - (intOf i).toNat)
  case atStart => exact ⟨0, Nat.zero_le _, by simp, rfl⟩
  case round =>
    obtain ⟨k, hk, rfl, rfl⟩ := hrel
    by_cases hlt : k < n
    · obtain ⟨b, off, rfl, hbs, hc0, hc1, hc2⟩ := h.at k (by rw [undoMarks_length]; exact hlt)
      rw [undoMarks_getD _ _ _ hlt] at hc0 hc1 hc2
      have e01 : c + ((k * 3 + 1 : Nat) : Int) = c + ((k * 3 : Nat) : Int) + 1 := by omega
      have e02 : c + ((k * 3 + 2 : Nat) : Int) = c + ((k * 3 : Nat) : Int) + 1 + 1 := by omega
      have e99 : Hid (c + (((k + 1) * 3 : Nat) : Int) = c + ((k * 3 : Nat) : Int) + 1 + 1 + 1) := show _ = _ by omega
      dsimp only at hc0 hc1 hc2
      rw [e01] at hc1
      rw [e02] at hc2
      clear e01 e02
      generalize hy : ((k * 3 : Nat) : Int) = y at hc0 hc1 hc2 e99
      have hy1 : y ≤ 3298534883328 := by omega
      have hy0 : 0 ≤ y := by omega
      clear hy
      go_wp2
      go_round
      case rel => exact ⟨k + 1, by omega, by rw [e99.out], by go_num⟩
      case measure => simp [intOf]; omega
    · go_wp2
      go_ret
      have hkl : k = n := by omega
      subst hkl
      exact ⟨rfl, rfl⟩

end Go.Proofs.YtkklhbofeghnbaaDoor

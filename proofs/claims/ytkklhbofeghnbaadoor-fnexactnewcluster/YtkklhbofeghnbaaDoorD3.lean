/- The struct Item as plain data: when memory reads as a list of them; what the helpers of the laws do on such lists. No condition. -/
import Derived.Test.YtkklhbofeghnbaaDoorJA
namespace Go.Proofs.YtkklhbofeghnbaaDoor
open Go.RowKit
open Go.BigFrame
set_option linter.unusedVariables false
set_option linter.unusedSimpArgs false

structure ItemD where
  key : Int
  val : Int
deriving DecidableEq
def itemNo : ItemD := ⟨0, 0⟩
def ItemD.cells (x : ItemD) : List Value := [.int .i64 x.key, .int .i64 x.val]
def itemCells (xs : List ItemD) : List Value := xs.flatMap ItemD.cells
def ItemRow (w : World) (a : Option Addr) (xs : List ItemD) : Prop := Lies w a (itemCells xs)

theorem itemCells_length (xs : List ItemD) : (itemCells xs).length = xs.length * 2 := by
  induction xs with
  | nil => rfl
  | cons x xs ih => simp only [itemCells, List.flatMap_cons, List.length_append, List.length_cons] at ih ⊢; rw [ih]; simp [ItemD.cells]; omega

theorem itemCells_append (xs ys : List ItemD) : itemCells (xs ++ ys) = itemCells xs ++ itemCells ys := by simp [itemCells]

theorem itemCells_one (x : ItemD) : itemCells [x] = x.cells := by simp [itemCells]

theorem itemCells_get (xs : List ItemD) : ∀ (i : Nat), i < xs.length → (itemCells xs)[i * 2]? = some (.int .i64 (xs.getD i itemNo).key) ∧ (itemCells xs)[i * 2 + 1]? = some (.int .i64 (xs.getD i itemNo).val) := by
  induction xs with
  | nil => intro i h; simp at h
  | cons x xs ih =>
    intro i h
    cases i with
    | zero => simp [itemCells, ItemD.cells]
    | succ i =>
      have e : itemCells (x :: xs) = x.cells ++ itemCells xs := rfl
      have hl : x.cells.length = 2 := rfl
      obtain ⟨h1, h2⟩ := ih i (by simpa using h)
      rw [e, List.getElem?_append_right (by omega), List.getElem?_append_right (by omega), hl, show (i + 1) * 2 - 2 = i * 2 by omega, show (i + 1) * 2 + 1 - 2 = i * 2 + 1 by omega]
      simpa [List.getD] using ⟨h1, h2⟩

theorem ItemRow.below {w w' : World} {a : Option Addr} {xs : List ItemD} (h : ItemRow w a xs) (hb : Below w.heap.size w w') : ItemRow w' a xs := Lies.below h hb

theorem ItemRow.at {w : World} {a : Option Addr} {xs : List ItemD} (h : ItemRow w a xs) (i : Nat) (hi : i < xs.length) :
    ∃ b off, a = some ⟨b, off, none⟩ ∧ b < w.heap.size ∧ w.cell? ⟨b, off + i * 2, none⟩ = some (.int .i64 (xs.getD i itemNo).key) ∧ w.cell? ⟨b, off + i * 2 + 1, none⟩ = some (.int .i64 (xs.getD i itemNo).val) := by
  obtain ⟨h1, h2⟩ := itemCells_get xs i hi
  rcases h with h | ⟨b, off, ha, hlt, hc⟩
  · have := itemCells_length xs
    rw [h] at this
    simp at this
    omega
  · exact ⟨b, off, ha, hlt, hc _ _ h1, by rw [Nat.add_assoc]; exact hc _ _ h2⟩

theorem infoItem : (Tryd.prog.info? 92).map (fun i => (i.zero, i.size, i.bytes)) = some (some (.agg #[.int .i64 0, .int .i64 0]), 2, 16) := by kernel_rfl

/-- The cells of one element are written over. -/
theorem layItem {w : World} {base e g cap n k : Nat} {zs ys : List Value} {v0 v1 : Value} (ho : w.ownsRow base e 2 (.slice (some ⟨g, 0, none⟩) n cap) n (layV zs ys (k * 2)))
    (hl : ys.length = zs.length) (hz : zs.length = n * 2) (hk : k < n) (g0 : zs[k * 2]? = some v0) (g1 : zs[k * 2 + 1]? = some v1) :
    ((w.setCell ⟨g, k * 2, none⟩ v0).setCell ⟨g, k * 2 + 1, none⟩ v1).ownsRow base e 2 (.slice (some ⟨g, 0, none⟩) n cap) n (layV zs ys ((k + 1) * 2)) ∧
    (w.frozen? ⟨g, k * 2, none⟩ = false ∧ w.frozen? ⟨g, k * 2 + 1, none⟩ = false) ∧
    ((∃ u, w.cell? ⟨g, k * 2, none⟩ = some u) ∧ (∃ u, w.cell? ⟨g, k * 2 + 1, none⟩ = some u)) ∧
    (∀ B a, Below B a w → B ≤ g → Below B a ((w.setCell ⟨g, k * 2, none⟩ v0).setCell ⟨g, k * 2 + 1, none⟩ v1)) := by
  have hc : ∀ j, j < n * 2 → ∃ u, w.cell? ⟨g, j, none⟩ = some u := fun j hj => by
    rw [ho.cellAt j hj]
    exact ⟨_, List.getElem?_eq_getElem (by rw [ho.1]; exact hj)⟩
  have s0 := (ho.stored (k * 2) v0).1
  rw [layV_step _ _ _ _ hl g0] at s0
  have s1 := (s0.stored (k * 2 + 1) v1).1
  rw [layV_step _ _ _ _ hl g1, show k * 2 + 1 + 1 = (k + 1) * 2 by omega] at s1
  exact ⟨s1, ⟨ho.frozenAt _, ho.frozenAt _⟩, ⟨hc _ (by omega), hc _ (by omega)⟩, fun B a h hB => ((h.setCell hB _).setCell hB _)⟩

set_option maxHeartbeats 1000000 in
theorem eqItem_true (k : Int) (y : Int) (w : World) :
    Calls Tryd.prog 56 #[.agg #[.int .i64 k, .int .i64 y], .agg #[.int .i64 k, .int .i64 y]] w fun e w' => e = .returned (.bool true) ∧ Below w.heap.size w w' := by
  have h0 : (k != k) = false := by simp
  have h1 : (y != y) = false := by simp
  go_enter Tryd.func56, Tryd.ntmps56
  go_wp2
  go_ret
  exact ⟨rfl, by go_grown⟩

set_option maxHeartbeats 2000000 in
theorem eqItemS_true (a a' : Option Addr) (cap cap' : Nat) (zs : List ItemD) (w : World) (h : ItemRow w a zs) (h' : ItemRow w a' zs) (hl : zs.length ≤ 1099511627776) :
    Calls Tryd.prog 53 #[.slice a zs.length cap, .slice a' zs.length cap'] w fun e w' => e = .returned (.bool true) ∧ Below w.heap.size w w' := by
  go_enter Tryd.func53, Tryd.ntmps53
  go_wp2
  go_loopw [5] (fun i wr => ∃ k : Nat, k ≤ zs.length ∧ i = .int .i64 k ∧ Below w.heap.size w wr) (fun i _ => zs.length - (intOf i).toNat)
  case atStart => exact ⟨0, Nat.zero_le _, rfl, Below.refl _ _⟩
  case round =>
    obtain ⟨k, hk, rfl, hb⟩ := hrel
    by_cases hlt : k < zs.length
    · obtain ⟨b, off, rfl, hbs, hc0, hc1⟩ := (h.below hb).at k hlt
      obtain ⟨b', off', rfl, hbs', hd0, hd1⟩ := (h'.below hb).at k hlt
      generalize zs.getD k itemNo = z at hc0 hc1 hd0 hd1
      obtain ⟨z0, z1⟩ := z
      have k0 := lat_cell hc0
      have l0 := lat_cell hd0
      have k1 := lat_cell hc1
      have l1 := lat_cell hd1
      clear hc0 hc1 hd0 hd1
      have hW : Below wr.heap.size wr wr.drew := (Below.refl _ _).drew
      have hne : Nonempty (Lat wr) := ⟨⟨wr, Below.refl _ _⟩⟩
      go_wp2_with fail
      refine text_begin (S := fun w' => ∃ u : Lat wr, w' = u.val) (by kernel_rfl) ?_
      refine sgr [(0, 8)] 2 (by kernel_rfl) ⟨⟨_, hW⟩, rfl⟩ ?_
      simp only [pkE]
      repeat go_big_quiet_step (fail)
      refine wpQuiet_nil ?_
      refine cla 8 (some 25) 56 #[.agg #[.int .i64 z0, .int .i64 z1], .agg #[.int .i64 z0, .int .i64 z1]] 1 (by kernel_rfl) ?_
      refine (eqItem_true _ _ _).mono ?_
      rintro e w2 ⟨rfl, hb2⟩
      replace hW := hW.trans (hb2.mono hW.size)
      clear hb2
      refine ⟨_, rfl, ⟨⟨_, hW⟩, rfl⟩, ?_⟩
      simp only [Act.put, pjE]
      refine sgr [(9, 1)] 0 (by kernel_rfl) ⟨⟨_, hW⟩, rfl⟩ ?_
      simp only [pkE]
      repeat go_big_quiet_step (fail)
      refine wpQuiet_nil ?_
      refine text_end (by kernel_rfl) ?_
      replace hb := hb.trans (hW.mono hb.size)
      clear k0 l0 k1 l1 hW hne
      go_wp2
      go_roundw
      case rel => exact ⟨k + 1, by omega, by go_num, hb⟩
      case measure => simp [intOf]; omega
    · go_wp2
      go_ret
      exact ⟨rfl, hb⟩

theorem grownItem {w wr : World} {g k : Nat} {v0 v1 : Value} (h : w.grownBy wr (some g)) : w.grownBy ((wr.setCell ⟨g, k, none⟩ v0).setCell ⟨g, k + 1, none⟩ v1) (some g) := by
  have one : ∀ (u : World) (j : Nat) (v : Value), w.grownBy u (some g) → w.grownBy (u.setCell ⟨g, j, none⟩ v) (some g) := fun u j v h =>
    ⟨h.os, h.tape, h.output, by simpa [World.setCell] using h.size, fun i hi hne => by rw [Below.heap_setCell _ _ _ _ (by intro e; apply hne; simp [e])]; exact h.block i hi hne⟩
  exact (one _ _ _ (one _ _ _ h))

/-- Marks, 2 cells an element. -/
def itemMarks (c : Int) (n : Nat) : List ItemD := (List.range n).map fun (i : Nat) => ⟨c + ((i * 2 : Nat) : Int), c + ((i * 2 + 1 : Nat) : Int)⟩
theorem itemMarks_length (c : Int) (n : Nat) : (itemMarks c n).length = n := by simp [itemMarks]
theorem itemMarks_getD (c : Int) (n i : Nat) (h : i < n) : (itemMarks c n).getD i itemNo = ⟨c + ((i * 2 : Nat) : Int), c + ((i * 2 + 1 : Nat) : Int)⟩ := by simp [itemMarks, List.getD, h]

set_option maxHeartbeats 2000000 in
theorem markItemS_any (base : Nat) (v : Value) (n : Nat) (xs : List Value) (c : Int) (w : World) (h : w.ownsRow base 92 2 v n xs) (hn : n ≤ 1099511627776) (h0 : 0 ≤ c) (h1 : c ≤ 1099511627776) :
    Calls Tryd.prog 33 #[v, .int .i64 c] w fun e w' => e = .returned (.int .i64 (c + ((n * 2 : Nat) : Int))) ∧ w'.ownsRow base 92 2 v n (itemCells (itemMarks c n)) ∧ w.grownBy w' v.ownBlock := by
  rcases h.2 with ⟨rfl, rfl⟩ | ⟨g, cap, cur, rfl, hb, hg, r⟩
  · go_enter Tryd.func33, Tryd.ntmps33
    go_wp2
    refine wp_loop_rounds 1 ?_
    rw [rounds_succ]
    go_wp2
    go_ret
    exact ⟨by simp, World.ownsRow_nil _ _ _ _, World.grownBy.refl _ _⟩
  · clear hg r
    have hml := itemCells_length (itemMarks c n)
    rw [itemMarks_length] at hml
    have hxl : xs.length = (itemCells (itemMarks c n)).length := by rw [hml]; exact h.1
    rw [← layV_zero (itemCells (itemMarks c n)) xs] at h
    go_enter Tryd.func33, Tryd.ntmps33
    go_wp2
    go_loopw [1, 5] (fun j i wr => ∃ k : Nat, k ≤ n ∧ j = .int .i64 (c + ((k * 2 : Nat) : Int)) ∧ i = .int .i64 k ∧ wr.ownsRow base 92 2 (.slice (some ⟨g, 0, none⟩) n cap) n (layV (itemCells (itemMarks c n)) xs (k * 2)) ∧ w.grownBy wr (some g)) (fun _ i _ => n - (intOf i).toNat)
    case atStart => exact ⟨0, Nat.zero_le _, by simp, rfl, by simpa using h, World.grownBy.refl _ _⟩
    case round =>
      obtain ⟨k, hk, rfl, rfl, ho, hgr⟩ := hrel
      by_cases hlt : k < n
      · obtain ⟨g0, g1⟩ := itemCells_get (itemMarks c n) k (by rw [itemMarks_length]; exact hlt)
        rw [itemMarks_getD _ _ _ hlt] at g0 g1
        obtain ⟨hst, ⟨f0, f1⟩, ⟨⟨u0, e0⟩, ⟨u1, e1⟩⟩, _⟩ := layItem ho hxl hml hlt g0 g1
        have hgr2 := grownItem hgr (g := g) (k := k * 2) (v0 := .int .i64 (c + ((k * 2 : Nat) : Int))) (v1 := .int .i64 (c + ((k * 2 + 1 : Nat) : Int)))
        have R : Hid (_ ∧ _) := ⟨hst, hgr2⟩
        have e01 : c + ((k * 2 + 1 : Nat) : Int) = c + ((k * 2 : Nat) : Int) + 1 := by omega
        have e99 : Hid (c + (((k + 1) * 2 : Nat) : Int) = c + ((k * 2 : Nat) : Int) + 1 + 1) := show _ = _ by omega
        rw [e01] at R
        clear hst hgr2 g0 g1 ho hgr e01
        generalize hy : ((k * 2 : Nat) : Int) = y at R e99
        have hy1 : y ≤ 2199023255552 := by omega
        have hy0 : 0 ≤ y := by omega
        clear hy
        go_wp2
        go_roundw
        case rel => exact ⟨k + 1, by omega, by rw [e99.out], by go_num, R.out.1, R.out.2⟩
        case measure => simp [intOf]; omega
      · go_wp2
        go_ret
        have hkl : k = n := by omega
        subst hkl
        rw [layV_all _ _ _ hxl hml] at ho
        exact ⟨rfl, ho, hgr⟩

set_option maxHeartbeats 2000000 in
theorem heldItemS_true (a : Option Addr) (n cap : Nat) (c : Int) (w : World) (h : ItemRow w a (itemMarks c n)) (hn : n ≤ 1099511627776) (h0 : 0 ≤ c) (h1 : c ≤ 1099511627776) :
    Calls Tryd.prog 38 #[.slice a n cap, .int .i64 c] w fun e w' => e = .returned (.int .i64 (c + ((n * 2 : Nat) : Int))) ∧ w' = w := by
  go_enter Tryd.func38, Tryd.ntmps38
  go_wp2
  go_loop [1, 5] (fun j i => ∃ k : Nat, k ≤ n ∧ j = .int .i64 (c + ((k * 2 : Nat) : Int)) ∧ i = .int .i64 k) (fun _ i => n - (intOf i).toNat)
  case atStart => exact ⟨0, Nat.zero_le _, by simp, rfl⟩
  case round =>
    obtain ⟨k, hk, rfl, rfl⟩ := hrel
    by_cases hlt : k < n
    · obtain ⟨b, off, rfl, hbs, hc0, hc1⟩ := h.at k (by rw [itemMarks_length]; exact hlt)
      rw [itemMarks_getD _ _ _ hlt] at hc0 hc1
      have e01 : c + ((k * 2 + 1 : Nat) : Int) = c + ((k * 2 : Nat) : Int) + 1 := by omega
      have e99 : Hid (c + (((k + 1) * 2 : Nat) : Int) = c + ((k * 2 : Nat) : Int) + 1 + 1) := show _ = _ by omega
      dsimp only at hc0 hc1
      rw [e01] at hc1
      clear e01
      generalize hy : ((k * 2 : Nat) : Int) = y at hc0 hc1 e99
      have hy1 : y ≤ 2199023255552 := by omega
      have hy0 : 0 ≤ y := by omega
      clear hy
      go_wp2
      go_round
      case rel => exact ⟨k + 1, by omega, by rw [e99.out], by go_num⟩
      case measure => simp [intOf]; omega
    · go_wp2
      go_ret
      have hkl : k = n := by omega
      subst hkl
      exact ⟨rfl, rfl⟩

end Go.Proofs.YtkklhbofeghnbaaDoor

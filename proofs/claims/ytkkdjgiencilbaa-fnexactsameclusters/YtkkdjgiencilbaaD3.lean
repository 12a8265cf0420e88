/- The struct Item as plain data: when memory reads as a list of them; what the helpers of the laws do on such lists. No condition. -/
import Derived.Test.YtkkdjgiencilbaaD2b
namespace Go.Proofs.Ytkkdjgiencilbaa
open Go.RowKit
open Go.BigFrame
set_option linter.unusedVariables false
set_option linter.unusedSimpArgs false

structure ItemD where
  key : Int
  val : Int
deriving DecidableEq
def itemNo : ItemD := ⟨0, 0⟩
def ItemD.cells (x : ItemD) : List Value := [.int .i64 x.key, .int .i64 x.val]
def itemCells (xs : List ItemD) : List Value := xs.flatMap ItemD.cells
def ItemRow (w : World) (a : Option Addr) (xs : List ItemD) : Prop := Lies w a (itemCells xs)

theorem itemCells_length (xs : List ItemD) : (itemCells xs).length = xs.length * 2 := by
  induction xs with
  | nil => rfl
  | cons x xs ih => simp only [itemCells, List.flatMap_cons, List.length_append, List.length_cons] at ih ⊢; rw [ih]; simp [ItemD.cells]; omega

theorem itemCells_append (xs ys : List ItemD) : itemCells (xs ++ ys) = itemCells xs ++ itemCells ys := by simp [itemCells]

theorem itemCells_one (x : ItemD) : itemCells [x] = x.cells := by simp [itemCells]

theorem itemCells_get (xs : List ItemD) : ∀ (i : Nat), i < xs.length → (itemCells xs)[i * 2]? = some (.int .i64 (xs.getD i itemNo).key) ∧ (itemCells xs)[i * 2 + 1]? = some (.int .i64 (xs.getD i itemNo).val) := by
  induction xs with
  | nil => intro i h; simp at h
  | cons x xs ih =>
    intro i h
    cases i with
    | zero => simp [itemCells, ItemD.cells]
    | succ i =>
      have e : itemCells (x :: xs) = x.cells ++ itemCells xs := rfl
      have hl : x.cells.length = 2 := rfl
      obtain ⟨h1, h2⟩ := ih i (by simpa using h)
      rw [e, List.getElem?_append_right (by omega), List.getElem?_append_right (by omega), hl, show (i + 1) * 2 - 2 = i * 2 by omega, show (i + 1) * 2 + 1 - 2 = i * 2 + 1 by omega]
      simpa [List.getD] using ⟨h1, h2⟩

theorem ItemRow.below {w w' : World} {a : Option Addr} {xs : List ItemD} (h : ItemRow w a xs) (hb : Below w.heap.size w w') : ItemRow w' a xs := Lies.below h hb

theorem ItemRow.at {w : World} {a : Option Addr} {xs : List ItemD} (h : ItemRow w a xs) (i : Nat) (hi : i < xs.length) :
    ∃ b off, a = some ⟨b, off, none⟩ ∧ b < w.heap.size ∧ w.cell? ⟨b, off + i * 2, none⟩ = some (.int .i64 (xs.getD i itemNo).key) ∧ w.cell? ⟨b, off + i * 2 + 1, none⟩ = some (.int .i64 (xs.getD i itemNo).val) := by
  obtain ⟨h1, h2⟩ := itemCells_get xs i hi
  rcases h with h | ⟨b, off, ha, hlt, hc⟩
  · have := itemCells_length xs
    rw [h] at this
    simp at this
    omega
  · exact ⟨b, off, ha, hlt, hc _ _ h1, by rw [Nat.add_assoc]; exact hc _ _ h2⟩

theorem infoItem : (Try.prog.info? 168).map (fun i => (i.zero, i.size, i.bytes)) = some (some (.agg #[.int .i64 0, .int .i64 0]), 2, 16) := by kernel_rfl

set_option maxHeartbeats 1000000 in
theorem toItem_any (k : Int) (y : Int) (w : World) :
    Calls Try.prog 118 #[.agg #[.int .i64 k, .int .i64 y]] w fun e w' => e = .returned (.agg #[.int .i64 k, .int .i64 y]) ∧ Below w.heap.size w w' := by
  go_enter Try.func118, Try.ntmps118
  go_wp2
  exact bodyPost_ret (v := .agg #[.int .i64 k, .int .i64 y]) (by simp [results, Try.results118, go_sem]) rfl ⟨rfl, by go_grown⟩

/-- The cells of one element are written over. -/
theorem layItem {w : World} {base e g cap n k : Nat} {zs ys : List Value} {v0 v1 : Value} (ho : w.ownsRow base e 2 (.slice (some ⟨g, 0, none⟩) n cap) n (layV zs ys (k * 2)))
    (hl : ys.length = zs.length) (hz : zs.length = n * 2) (hk : k < n) (g0 : zs[k * 2]? = some v0) (g1 : zs[k * 2 + 1]? = some v1) :
    ((w.setCell ⟨g, k * 2, none⟩ v0).setCell ⟨g, k * 2 + 1, none⟩ v1).ownsRow base e 2 (.slice (some ⟨g, 0, none⟩) n cap) n (layV zs ys ((k + 1) * 2)) ∧
    (w.frozen? ⟨g, k * 2, none⟩ = false ∧ w.frozen? ⟨g, k * 2 + 1, none⟩ = false) ∧
    ((∃ u, w.cell? ⟨g, k * 2, none⟩ = some u) ∧ (∃ u, w.cell? ⟨g, k * 2 + 1, none⟩ = some u)) ∧
    (∀ B a, Below B a w → B ≤ g → Below B a ((w.setCell ⟨g, k * 2, none⟩ v0).setCell ⟨g, k * 2 + 1, none⟩ v1)) := by
  have hc : ∀ j, j < n * 2 → ∃ u, w.cell? ⟨g, j, none⟩ = some u := fun j hj => by
    rw [ho.cellAt j hj]
    exact ⟨_, List.getElem?_eq_getElem (by rw [ho.1]; exact hj)⟩
  have s0 := (ho.stored (k * 2) v0).1
  rw [layV_step _ _ _ _ hl g0] at s0
  have s1 := (s0.stored (k * 2 + 1) v1).1
  rw [layV_step _ _ _ _ hl g1, show k * 2 + 1 + 1 = (k + 1) * 2 by omega] at s1
  exact ⟨s1, ⟨ho.frozenAt _, ho.frozenAt _⟩, ⟨hc _ (by omega), hc _ (by omega)⟩, fun B a h hB => ((h.setCell hB _).setCell hB _)⟩

set_option maxHeartbeats 1000000 in
theorem toItemS_any (a : Option Addr) (cap : Nat) (zs : List ItemD) (w : World) (h : ItemRow w a zs) (hl : zs.length ≤ 1048576) :
    Calls Try.prog 107 #[.slice a zs.length cap] w fun e w' => ∃ g c, e = .returned (.slice (some ⟨g, 0, none⟩) zs.length c) ∧
      w'.ownsRow w.heap.size 168 2 (.slice (some ⟨g, 0, none⟩) zs.length c) zs.length (itemCells zs) ∧ Below w.heap.size w w' := by
  obtain ⟨i0, hi, hz0, hz1, hz2⟩ := info_parts infoItem
  have hbytes : i0.bytes * zs.length ≤ 281474976710656 := by rw [hz2]; omega
  have hmax : zs.length ≤ maxLen := by unfold maxLen; omega
  have hcl := itemCells_length zs
  go_enter Try.func107, Try.ntmps107
  go_wp2_with (at_make; refine wpList_make_full _ rfl _ _ 74 rfl w.heap.size 168 i0 (.agg #[.int .i64 0, .int .i64 0]) 2 Try.underlying74 hi hz0 hz1 _ _ _ _ zs.length rfl rfl rfl rfl hbytes hmax (Nat.le_refl _) ?_)
  intro w1 hown hgrow
  have hlen0 : (madeCells #[Value.int .i64 0, .int .i64 0] (zs.length * 2)).toList.length = (itemCells zs).length := by simp [size_madeCells, hcl]
  have hb1 : Below w.heap.size w w1 := (Below.refl _ _).grown hgrow (Nat.le_refl _) (by simp)
  generalize (madeCells #[Value.int .i64 0, .int .i64 0] (zs.length * 2)).toList = ys at hown hlen0
  rw [← layV_zero (itemCells zs) ys] at hown
  go_wp2
  go_loopw [4] (fun i wr => ∃ k : Nat, k ≤ zs.length ∧ i = .int .i64 k ∧ wr.ownsRow w.heap.size 168 2 (.slice (some ⟨w.heap.size, 0, none⟩) zs.length zs.length) zs.length (layV (itemCells zs) ys (k * 2)) ∧ Below w.heap.size w wr) (fun i _ => zs.length - (intOf i).toNat)
  case atStart => exact ⟨0, Nat.zero_le _, rfl, by simpa using hown, hb1⟩
  case round =>
    obtain ⟨k, hk, rfl, ho, hb⟩ := hrel
    by_cases hlt : k < zs.length
    · obtain ⟨b, off, rfl, hbs, hc0, hc1⟩ := (h.below hb).at k hlt
      obtain ⟨g0, g1⟩ := itemCells_get zs k hlt
      generalize zs.getD k itemNo = z at hc0 hc1 g0 g1
      go_wp2_with fail
      refine (toItem_any _ _ _).mono ?_
      rintro e w2 ⟨rfl, hb2⟩
      replace ho := own_below ho hb2
      replace hb := hb.trans (hb2.mono hb.size)
      clear hc0 hc1 hb2
      obtain ⟨hst, hfr, hce, hbel⟩ := layItem ho hlen0 hcl hlt g0 g1
      obtain ⟨f0, f1⟩ := hfr
      obtain ⟨⟨u0, e0⟩, ⟨u1, e1⟩⟩ := hce
      have R : Hid (_ ∧ _) := ⟨hst, hbel _ _ hb (Nat.le_refl _)⟩
      clear hst hbel g0 g1 ho
      go_wp2
      go_roundw
      case rel => exact ⟨k + 1, by omega, by go_num, R.out.1, R.out.2⟩
      case measure => simp [intOf]; omega
    · go_wp2
      go_ret
      have hkl : k = zs.length := by omega
      subst hkl
      rw [layV_all _ _ _ hlen0 hcl] at ho
      exact ⟨_, _, rfl, ho, hb⟩

set_option maxHeartbeats 1000000 in
theorem eqItem_true (k : Int) (y : Int) (w : World) :
    Calls Try.prog 120 #[.agg #[.int .i64 k, .int .i64 y], .agg #[.int .i64 k, .int .i64 y]] w fun e w' => e = .returned (.bool true) ∧ Below w.heap.size w w' := by
  have h0 : (k != k) = false := by simp
  have h1 : (y != y) = false := by simp
  go_enter Try.func120, Try.ntmps120
  go_wp2
  go_ret
  exact ⟨rfl, by go_grown⟩

set_option maxHeartbeats 2000000 in
theorem eqItemS_true (a a' : Option Addr) (cap cap' : Nat) (zs : List ItemD) (w : World) (h : ItemRow w a zs) (h' : ItemRow w a' zs) (hl : zs.length ≤ 1099511627776) :
    Calls Try.prog 113 #[.slice a zs.length cap, .slice a' zs.length cap'] w fun e w' => e = .returned (.bool true) ∧ Below w.heap.size w w' := by
  go_enter Try.func113, Try.ntmps113
  go_wp2
  go_loopw [5] (fun i wr => ∃ k : Nat, k ≤ zs.length ∧ i = .int .i64 k ∧ Below w.heap.size w wr) (fun i _ => zs.length - (intOf i).toNat)
  case atStart => exact ⟨0, Nat.zero_le _, rfl, Below.refl _ _⟩
  case round =>
    obtain ⟨k, hk, rfl, hb⟩ := hrel
    by_cases hlt : k < zs.length
    · obtain ⟨b, off, rfl, hbs, hc0, hc1⟩ := (h.below hb).at k hlt
      obtain ⟨b', off', rfl, hbs', hd0, hd1⟩ := (h'.below hb).at k hlt
      generalize zs.getD k itemNo = z at hc0 hc1 hd0 hd1
      obtain ⟨z0, z1⟩ := z
      have k0 := lat_cell hc0
      have l0 := lat_cell hd0
      have k1 := lat_cell hc1
      have l1 := lat_cell hd1
      clear hc0 hc1 hd0 hd1
      have hW : Below wr.heap.size wr wr.drew := (Below.refl _ _).drew
      have hne : Nonempty (Lat wr) := ⟨⟨wr, Below.refl _ _⟩⟩
      go_wp2_with fail
      refine text_begin (S := fun w' => ∃ u : Lat wr, w' = u.val) (by kernel_rfl) ?_
      refine sgr [(0, 8)] 2 (by kernel_rfl) ⟨⟨_, hW⟩, rfl⟩ ?_
      simp only [pkE]
      repeat go_big_quiet_step (fail)
      refine wpQuiet_nil ?_
      refine cla 8 (some 25) 120 #[.agg #[.int .i64 z0, .int .i64 z1], .agg #[.int .i64 z0, .int .i64 z1]] 1 (by kernel_rfl) ?_
      refine (eqItem_true _ _ _).mono ?_
      rintro e w2 ⟨rfl, hb2⟩
      replace hW := hW.trans (hb2.mono hW.size)
      clear hb2
      refine ⟨_, rfl, ⟨⟨_, hW⟩, rfl⟩, ?_⟩
      simp only [Act.put, pjE]
      refine sgr [(9, 1)] 0 (by kernel_rfl) ⟨⟨_, hW⟩, rfl⟩ ?_
      simp only [pkE]
      repeat go_big_quiet_step (fail)
      refine wpQuiet_nil ?_
      refine text_end (by kernel_rfl) ?_
      replace hb := hb.trans (hW.mono hb.size)
      clear k0 l0 k1 l1 hW hne
      go_wp2
      go_roundw
      case rel => exact ⟨k + 1, by omega, by go_num, hb⟩
      case measure => simp [intOf]; omega
    · go_wp2
      go_ret
      exact ⟨rfl, hb⟩

theorem grownItem {w wr : World} {g k : Nat} {v0 v1 : Value} (h : w.grownBy wr (some g)) : w.grownBy ((wr.setCell ⟨g, k, none⟩ v0).setCell ⟨g, k + 1, none⟩ v1) (some g) := by
  have one : ∀ (u : World) (j : Nat) (v : Value), w.grownBy u (some g) → w.grownBy (u.setCell ⟨g, j, none⟩ v) (some g) := fun u j v h =>
    ⟨h.os, h.tape, h.output, by simpa [World.setCell] using h.size, fun i hi hne => by rw [Below.heap_setCell _ _ _ _ (by intro e; apply hne; simp [e])]; exact h.block i hi hne⟩
  exact (one _ _ _ (one _ _ _ h))

/-- Marks, 2 cells an element. -/
def itemMarks (c : Int) (n : Nat) : List ItemD := (List.range n).map fun (i : Nat) => ⟨c + ((i * 2 : Nat) : Int), c + ((i * 2 + 1 : Nat) : Int)⟩
theorem itemMarks_length (c : Int) (n : Nat) : (itemMarks c n).length = n := by simp [itemMarks]
theorem itemMarks_getD (c : Int) (n i : Nat) (h : i < n) : (itemMarks c n).getD i itemNo = ⟨c + ((i * 2 : Nat) : Int), c + ((i * 2 + 1 : Nat) : Int)⟩ := by simp [itemMarks, List.getD, h]

set_option maxHeartbeats 1000000 in
theorem szItemS_any (a : Option Addr) (n cap : Nat) (c : Int) (w : World) (hn : n ≤ 9223372036854775807) (h0 : 0 ≤ c) (h1 : c ≤ 1099511627776) :
    Calls Try.prog 100 #[.slice a n cap, .int .i64 c] w fun e w' => e = .returned (.int .i64 (if c - n < 0 then -1 else c - n)) ∧ w' = w := by
  by_cases h : c - n < 0
  · rw [if_pos h]
    go_enter Try.func100, Try.ntmps100
    go_wp2
    go_ret
    exact ⟨rfl, rfl⟩
  · rw [if_neg h]
    go_enter Try.func100, Try.ntmps100
    go_wp2
    go_ret
    exact ⟨rfl, rfl⟩

end Go.Proofs.Ytkkdjgiencilbaa

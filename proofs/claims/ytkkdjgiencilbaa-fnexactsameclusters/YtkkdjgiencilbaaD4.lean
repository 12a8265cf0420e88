/- The struct Undo as plain data: when memory reads as a list of them; what the helpers of the laws do on such lists. No condition. -/
import Derived.Test.YtkkdjgiencilbaaD2b
namespace Go.Proofs.Ytkkdjgiencilbaa
open Go.RowKit
open Go.BigFrame
set_option linter.unusedVariables false
set_option linter.unusedSimpArgs false

structure UndoD where
  key : Int
  was : Bool
  val : Int
deriving DecidableEq
def undoNo : UndoD := ⟨0, false, 0⟩
def UndoD.cells (x : UndoD) : List Value := [.int .i64 x.key, .bool x.was, .int .i64 x.val]
def undoCells (xs : List UndoD) : List Value := xs.flatMap UndoD.cells
def UndoRow (w : World) (a : Option Addr) (xs : List UndoD) : Prop := Lies w a (undoCells xs)

theorem undoCells_length (xs : List UndoD) : (undoCells xs).length = xs.length * 3 := by
  induction xs with
  | nil => rfl
  | cons x xs ih => simp only [undoCells, List.flatMap_cons, List.length_append, List.length_cons] at ih ⊢; rw [ih]; simp [UndoD.cells]; omega

theorem undoCells_append (xs ys : List UndoD) : undoCells (xs ++ ys) = undoCells xs ++ undoCells ys := by simp [undoCells]

theorem undoCells_one (x : UndoD) : undoCells [x] = x.cells := by simp [undoCells]

theorem undoCells_get (xs : List UndoD) : ∀ (i : Nat), i < xs.length → (undoCells xs)[i * 3]? = some (.int .i64 (xs.getD i undoNo).key) ∧ (undoCells xs)[i * 3 + 1]? = some (.bool (xs.getD i undoNo).was) ∧ (undoCells xs)[i * 3 + 2]? = some (.int .i64 (xs.getD i undoNo).val) := by
  induction xs with
  | nil => intro i h; simp at h
  | cons x xs ih =>
    intro i h
    cases i with
    | zero => simp [undoCells, UndoD.cells]
    | succ i =>
      have e : undoCells (x :: xs) = x.cells ++ undoCells xs := rfl
      have hl : x.cells.length = 3 := rfl
      obtain ⟨h1, h2, h3⟩ := ih i (by simpa using h)
      rw [e, List.getElem?_append_right (by omega), List.getElem?_append_right (by omega), List.getElem?_append_right (by omega), hl, show (i + 1) * 3 - 3 = i * 3 by omega, show (i + 1) * 3 + 1 - 3 = i * 3 + 1 by omega, show (i + 1) * 3 + 2 - 3 = i * 3 + 2 by omega]
      simpa [List.getD] using ⟨h1, h2, h3⟩

theorem UndoRow.below {w w' : World} {a : Option Addr} {xs : List UndoD} (h : UndoRow w a xs) (hb : Below w.heap.size w w') : UndoRow w' a xs := Lies.below h hb

theorem UndoRow.at {w : World} {a : Option Addr} {xs : List UndoD} (h : UndoRow w a xs) (i : Nat) (hi : i < xs.length) :
    ∃ b off, a = some ⟨b, off, none⟩ ∧ b < w.heap.size ∧ w.cell? ⟨b, off + i * 3, none⟩ = some (.int .i64 (xs.getD i undoNo).key) ∧ w.cell? ⟨b, off + i * 3 + 1, none⟩ = some (.bool (xs.getD i undoNo).was) ∧ w.cell? ⟨b, off + i * 3 + 2, none⟩ = some (.int .i64 (xs.getD i undoNo).val) := by
  obtain ⟨h1, h2, h3⟩ := undoCells_get xs i hi
  rcases h with h | ⟨b, off, ha, hlt, hc⟩
  · have := undoCells_length xs
    rw [h] at this
    simp at this
    omega
  · exact ⟨b, off, ha, hlt, hc _ _ h1, by rw [Nat.add_assoc]; exact hc _ _ h2, by rw [Nat.add_assoc]; exact hc _ _ h3⟩

theorem infoUndo : (Try.prog.info? 170).map (fun i => (i.zero, i.size, i.bytes)) = some (some (.agg #[.int .i64 0, .bool false, .int .i64 0]), 3, 24) := by kernel_rfl

set_option maxHeartbeats 1000000 in
theorem toUndo_any (k : Int) (y : Bool) (v : Int) (w : World) :
    Calls Try.prog 122 #[.agg #[.int .i64 k, .bool y, .int .i64 v]] w fun e w' => e = .returned (.agg #[.int .i64 k, .bool y, .int .i64 v]) ∧ Below w.heap.size w w' := by
  go_enter Try.func122, Try.ntmps122
  go_wp2
  exact bodyPost_ret (v := .agg #[.int .i64 k, .bool y, .int .i64 v]) (by simp [results, Try.results122, go_sem]) rfl ⟨rfl, by go_grown⟩

/-- The cells of one element are written over. -/
theorem layUndo {w : World} {base e g cap n k : Nat} {zs ys : List Value} {v0 v1 v2 : Value} (ho : w.ownsRow base e 3 (.slice (some ⟨g, 0, none⟩) n cap) n (layV zs ys (k * 3)))
    (hl : ys.length = zs.length) (hz : zs.length = n * 3) (hk : k < n) (g0 : zs[k * 3]? = some v0) (g1 : zs[k * 3 + 1]? = some v1) (g2 : zs[k * 3 + 2]? = some v2) :
    (((w.setCell ⟨g, k * 3, none⟩ v0).setCell ⟨g, k * 3 + 1, none⟩ v1).setCell ⟨g, k * 3 + 2, none⟩ v2).ownsRow base e 3 (.slice (some ⟨g, 0, none⟩) n cap) n (layV zs ys ((k + 1) * 3)) ∧
    (w.frozen? ⟨g, k * 3, none⟩ = false ∧ w.frozen? ⟨g, k * 3 + 1, none⟩ = false ∧ w.frozen? ⟨g, k * 3 + 2, none⟩ = false) ∧
    ((∃ u, w.cell? ⟨g, k * 3, none⟩ = some u) ∧ (∃ u, w.cell? ⟨g, k * 3 + 1, none⟩ = some u) ∧ (∃ u, w.cell? ⟨g, k * 3 + 2, none⟩ = some u)) ∧
    (∀ B a, Below B a w → B ≤ g → Below B a (((w.setCell ⟨g, k * 3, none⟩ v0).setCell ⟨g, k * 3 + 1, none⟩ v1).setCell ⟨g, k * 3 + 2, none⟩ v2)) := by
  have hc : ∀ j, j < n * 3 → ∃ u, w.cell? ⟨g, j, none⟩ = some u := fun j hj => by
    rw [ho.cellAt j hj]
    exact ⟨_, List.getElem?_eq_getElem (by rw [ho.1]; exact hj)⟩
  have s0 := (ho.stored (k * 3) v0).1
  rw [layV_step _ _ _ _ hl g0] at s0
  have s1 := (s0.stored (k * 3 + 1) v1).1
  rw [layV_step _ _ _ _ hl g1] at s1
  have s2 := (s1.stored (k * 3 + 2) v2).1
  rw [layV_step _ _ _ _ hl g2, show k * 3 + 2 + 1 = (k + 1) * 3 by omega] at s2
  exact ⟨s2, ⟨ho.frozenAt _, ho.frozenAt _, ho.frozenAt _⟩, ⟨hc _ (by omega), hc _ (by omega), hc _ (by omega)⟩, fun B a h hB => (((h.setCell hB _).setCell hB _).setCell hB _)⟩

set_option maxHeartbeats 1000000 in
theorem toUndoS_any (a : Option Addr) (cap : Nat) (zs : List UndoD) (w : World) (h : UndoRow w a zs) (hl : zs.length ≤ 1048576) :
    Calls Try.prog 119 #[.slice a zs.length cap] w fun e w' => ∃ g c, e = .returned (.slice (some ⟨g, 0, none⟩) zs.length c) ∧
      w'.ownsRow w.heap.size 170 3 (.slice (some ⟨g, 0, none⟩) zs.length c) zs.length (undoCells zs) ∧ Below w.heap.size w w' := by
  obtain ⟨i0, hi, hz0, hz1, hz2⟩ := info_parts infoUndo
  have hbytes : i0.bytes * zs.length ≤ 281474976710656 := by rw [hz2]; omega
  have hmax : zs.length ≤ maxLen := by unfold maxLen; omega
  have hcl := undoCells_length zs
  go_enter Try.func119, Try.ntmps119
  go_wp2_with (at_make; refine wpList_make_full _ rfl _ _ 152 rfl w.heap.size 170 i0 (.agg #[.int .i64 0, .bool false, .int .i64 0]) 3 Try.underlying152 hi hz0 hz1 _ _ _ _ zs.length rfl rfl rfl rfl hbytes hmax (Nat.le_refl _) ?_)
  intro w1 hown hgrow
  have hlen0 : (madeCells #[Value.int .i64 0, .bool false, .int .i64 0] (zs.length * 3)).toList.length = (undoCells zs).length := by simp [size_madeCells, hcl]
  have hb1 : Below w.heap.size w w1 := (Below.refl _ _).grown hgrow (Nat.le_refl _) (by simp)
  generalize (madeCells #[Value.int .i64 0, .bool false, .int .i64 0] (zs.length * 3)).toList = ys at hown hlen0
  rw [← layV_zero (undoCells zs) ys] at hown
  go_wp2
  go_loopw [4] (fun i wr => ∃ k : Nat, k ≤ zs.length ∧ i = .int .i64 k ∧ wr.ownsRow w.heap.size 170 3 (.slice (some ⟨w.heap.size, 0, none⟩) zs.length zs.length) zs.length (layV (undoCells zs) ys (k * 3)) ∧ Below w.heap.size w wr) (fun i _ => zs.length - (intOf i).toNat)
  case atStart => exact ⟨0, Nat.zero_le _, rfl, by simpa using hown, hb1⟩
  case round =>
    obtain ⟨k, hk, rfl, ho, hb⟩ := hrel
    by_cases hlt : k < zs.length
    · obtain ⟨b, off, rfl, hbs, hc0, hc1, hc2⟩ := (h.below hb).at k hlt
      obtain ⟨g0, g1, g2⟩ := undoCells_get zs k hlt
      generalize zs.getD k undoNo = z at hc0 hc1 hc2 g0 g1 g2
      go_wp2_with fail
      refine (toUndo_any _ _ _ _).mono ?_
      rintro e w2 ⟨rfl, hb2⟩
      replace ho := own_below ho hb2
      replace hb := hb.trans (hb2.mono hb.size)
      clear hc0 hc1 hc2 hb2
      obtain ⟨hst, hfr, hce, hbel⟩ := layUndo ho hlen0 hcl hlt g0 g1 g2
      obtain ⟨f0, f1, f2⟩ := hfr
      obtain ⟨⟨u0, e0⟩, ⟨u1, e1⟩, ⟨u2, e2⟩⟩ := hce
      have R : Hid (_ ∧ _) := ⟨hst, hbel _ _ hb (Nat.le_refl _)⟩
      clear hst hbel g0 g1 g2 ho
      go_wp2
      go_roundw
      case rel => exact ⟨k + 1, by omega, by go_num, R.out.1, R.out.2⟩
      case measure => simp [intOf]; omega
    · go_wp2
      go_ret
      have hkl : k = zs.length := by omega
      subst hkl
      rw [layV_all _ _ _ hlen0 hcl] at ho
      exact ⟨_, _, rfl, ho, hb⟩

set_option maxHeartbeats 1000000 in
theorem eqUndo_true (k : Int) (y : Bool) (v : Int) (w : World) :
    Calls Try.prog 123 #[.agg #[.int .i64 k, .bool y, .int .i64 v], .agg #[.int .i64 k, .bool y, .int .i64 v]] w fun e w' => e = .returned (.bool true) ∧ Below w.heap.size w w' := by
  have h0 : (k != k) = false := by simp
  have h1 : (y != y) = false := by simp
  have h2 : (v != v) = false := by simp
  go_enter Try.func123, Try.ntmps123
  go_wp2
  go_ret
  exact ⟨rfl, by go_grown⟩

set_option maxHeartbeats 2000000 in
theorem eqUndoS_true (a a' : Option Addr) (cap cap' : Nat) (zs : List UndoD) (w : World) (h : UndoRow w a zs) (h' : UndoRow w a' zs) (hl : zs.length ≤ 1099511627776) :
    Calls Try.prog 121 #[.slice a zs.length cap, .slice a' zs.length cap'] w fun e w' => e = .returned (.bool true) ∧ Below w.heap.size w w' := by
  go_enter Try.func121, Try.ntmps121
  go_wp2
  go_loopw [5] (fun i wr => ∃ k : Nat, k ≤ zs.length ∧ i = .int .i64 k ∧ Below w.heap.size w wr) (fun i _ => zs.length - (intOf i).toNat)
  case atStart => exact ⟨0, Nat.zero_le _, rfl, Below.refl _ _⟩
  case round =>
    obtain ⟨k, hk, rfl, hb⟩ := hrel
    by_cases hlt : k < zs.length
    · obtain ⟨b, off, rfl, hbs, hc0, hc1, hc2⟩ := (h.below hb).at k hlt
      obtain ⟨b', off', rfl, hbs', hd0, hd1, hd2⟩ := (h'.below hb).at k hlt
      generalize zs.getD k undoNo = z at hc0 hc1 hc2 hd0 hd1 hd2
      obtain ⟨z0, z1, z2⟩ := z
      have k0 := lat_cell hc0
      have l0 := lat_cell hd0
      have k1 := lat_cell hc1
      have l1 := lat_cell hd1
      have k2 := lat_cell hc2
      have l2 := lat_cell hd2
      clear hc0 hc1 hc2 hd0 hd1 hd2
      have hW : Below wr.heap.size wr wr.drew := (Below.refl _ _).drew
      have hne : Nonempty (Lat wr) := ⟨⟨wr, Below.refl _ _⟩⟩
      go_wp2_with fail
      refine text_begin (S := fun w' => ∃ u : Lat wr, w' = u.val) (by kernel_rfl) ?_
      refine sgr [(0, 8)] 2 (by kernel_rfl) ⟨⟨_, hW⟩, rfl⟩ ?_
      simp only [pkE]
      repeat go_big_quiet_step (fail)
      refine wpQuiet_nil ?_
      refine cla 8 (some 25) 123 #[.agg #[.int .i64 z0, .bool z1, .int .i64 z2], .agg #[.int .i64 z0, .bool z1, .int .i64 z2]] 1 (by kernel_rfl) ?_
      refine (eqUndo_true _ _ _ _).mono ?_
      rintro e w2 ⟨rfl, hb2⟩
      replace hW := hW.trans (hb2.mono hW.size)
      clear hb2
      refine ⟨_, rfl, ⟨⟨_, hW⟩, rfl⟩, ?_⟩
      simp only [Act.put, pjE]
      refine sgr [(9, 1)] 0 (by kernel_rfl) ⟨⟨_, hW⟩, rfl⟩ ?_
      simp only [pkE]
      repeat go_big_quiet_step (fail)
      refine wpQuiet_nil ?_
      refine text_end (by kernel_rfl) ?_
      replace hb := hb.trans (hW.mono hb.size)
      clear k0 l0 k1 l1 k2 l2 hW hne
      go_wp2
      go_roundw
      case rel => exact ⟨k + 1, by omega, by go_num, hb⟩
      case measure => simp [intOf]; omega
    · go_wp2
      go_ret
      exact ⟨rfl, hb⟩

theorem grownUndo {w wr : World} {g k : Nat} {v0 v1 v2 : Value} (h : w.grownBy wr (some g)) : w.grownBy (((wr.setCell ⟨g, k, none⟩ v0).setCell ⟨g, k + 1, none⟩ v1).setCell ⟨g, k + 2, none⟩ v2) (some g) := by
  have one : ∀ (u : World) (j : Nat) (v : Value), w.grownBy u (some g) → w.grownBy (u.setCell ⟨g, j, none⟩ v) (some g) := fun u j v h =>
    ⟨h.os, h.tape, h.output, by simpa [World.setCell] using h.size, fun i hi hne => by rw [Below.heap_setCell _ _ _ _ (by intro e; apply hne; simp [e])]; exact h.block i hi hne⟩
  exact (one _ _ _ (one _ _ _ (one _ _ _ h)))

/-- Marks, 3 cells an element. -/
def undoMarks (c : Int) (n : Nat) : List UndoD := (List.range n).map fun (i : Nat) => ⟨c + ((i * 3 : Nat) : Int), ((c + ((i * 3 + 1 : Nat) : Int)) % 3 == 0), c + ((i * 3 + 2 : Nat) : Int)⟩
theorem undoMarks_length (c : Int) (n : Nat) : (undoMarks c n).length = n := by simp [undoMarks]
theorem undoMarks_getD (c : Int) (n i : Nat) (h : i < n) : (undoMarks c n).getD i undoNo = ⟨c + ((i * 3 : Nat) : Int), ((c + ((i * 3 + 1 : Nat) : Int)) % 3 == 0), c + ((i * 3 + 2 : Nat) : Int)⟩ := by simp [undoMarks, List.getD, h]

set_option maxHeartbeats 1000000 in
theorem szUndoS_any (a : Option Addr) (n cap : Nat) (c : Int) (w : World) (hn : n ≤ 9223372036854775807) (h0 : 0 ≤ c) (h1 : c ≤ 1099511627776) :
    Calls Try.prog 115 #[.slice a n cap, .int .i64 c] w fun e w' => e = .returned (.int .i64 (if c - n < 0 then -1 else c - n)) ∧ w' = w := by
  by_cases h : c - n < 0
  · rw [if_pos h]
    go_enter Try.func115, Try.ntmps115
    go_wp2
    go_ret
    exact ⟨rfl, rfl⟩
  · rw [if_neg h]
    go_enter Try.func115, Try.ntmps115
    go_wp2
    go_ret
    exact ⟨rfl, rfl⟩

end Go.Proofs.Ytkkdjgiencilbaa

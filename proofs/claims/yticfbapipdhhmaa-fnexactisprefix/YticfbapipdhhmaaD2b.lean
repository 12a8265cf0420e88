/- What the helpers of the laws on lists of acts do: they compare, mark, and look for marks. -/
import Derived.Test.YticfbapipdhhmaaD2
import Derived.Test.YticfbapipdhhmaaText
namespace Go.Proofs.Yticfbapipdhhmaa
open Go.RowKit
open Go.BigFrame
set_option linter.unusedVariables false
set_option linter.unusedSimpArgs false

set_option maxHeartbeats 1000000 in
theorem eqAct_true (k y v : Int) (w : World) :
    Calls Try.prog 23 #[.agg #[.int .i64 k, .int .i64 y, .int .i64 v], .agg #[.int .i64 k, .int .i64 y, .int .i64 v]] w fun e w' => e = .returned (.bool true) ∧ Below w.heap.size w w' := by
  have h0 : (k != k) = false := by simp
  have h1 : (y != y) = false := by simp
  have h2 : (v != v) = false := by simp
  go_enter Try.func23, Try.ntmps23
  go_wp2
  go_ret
  exact ⟨rfl, by go_grown⟩

theorem lat_cell {w : World} {a : Addr} {v : Value} (h : w.cell? a = some v) : ∀ u : Lat w, u.val.cell? a = some v := fun u => by
  rw [u.isBelow.cell (World.block_lt_of_cell? w a h)]; exact h

set_option maxHeartbeats 2000000 in
theorem eqActS_true (a a' : Option Addr) (cap cap' : Nat) (zs : List ActD) (w : World) (h : ActRow w a zs) (h' : ActRow w a' zs) (hl : zs.length ≤ 1099511627776) :
    Calls Try.prog 20 #[.slice a zs.length cap, .slice a' zs.length cap'] w fun e w' => e = .returned (.bool true) ∧ Below w.heap.size w w' := by
  go_enter Try.func20, Try.ntmps20
  go_wp2
  go_loopw [5] (fun i wr => ∃ k : Nat, k ≤ zs.length ∧ i = .int .i64 k ∧ Below w.heap.size w wr) (fun i _ => zs.length - (intOf i).toNat)
  case atStart => exact ⟨0, Nat.zero_le _, rfl, Below.refl _ _⟩
  case round =>
    obtain ⟨k, hk, rfl, hb⟩ := hrel
    by_cases hlt : k < zs.length
    · obtain ⟨b, off, rfl, hbs, hc0, hc1, hc2⟩ := (h.below hb).at k hlt
      obtain ⟨b', off', rfl, hbs', hd0, hd1, hd2⟩ := (h'.below hb).at k hlt
      generalize zs.getD k actNo = z at hc0 hc1 hc2 hd0 hd1 hd2
      obtain ⟨z0, z1, z2⟩ := z
      have k0 := lat_cell hc0
      have k1 := lat_cell hc1
      have k2 := lat_cell hc2
      have l0 := lat_cell hd0
      have l1 := lat_cell hd1
      have l2 := lat_cell hd2
      clear hc0 hc1 hc2 hd0 hd1 hd2
      have hW : Below wr.heap.size wr wr.drew := (Below.refl _ _).drew
      have hne : Nonempty (Lat wr) := ⟨⟨wr, Below.refl _ _⟩⟩
      go_wp2_with fail
      refine text_begin (S := fun w' => ∃ u : Lat wr, w' = u.val) (by kernel_rfl) ?_
      refine sgr [(0, 8)] 2 (by kernel_rfl) ⟨⟨_, hW⟩, rfl⟩ ?_
      simp only [pkE]
      repeat go_big_quiet_step (fail)
      refine wpQuiet_nil ?_
      refine cla 8 (some 25) 23 #[.agg #[.int .i64 z0, .int .i64 z1, .int .i64 z2], .agg #[.int .i64 z0, .int .i64 z1, .int .i64 z2]] 1 (by kernel_rfl) ?_
      refine (eqAct_true _ _ _ _).mono ?_
      rintro e w2 ⟨rfl, hb2⟩
      replace hW := hW.trans (hb2.mono hW.size)
      clear hb2
      refine ⟨_, rfl, ⟨⟨_, hW⟩, rfl⟩, ?_⟩
      simp only [Act.put, pjE]
      refine sgr [(9, 1)] 0 (by kernel_rfl) ⟨⟨_, hW⟩, rfl⟩ ?_
      simp only [pkE]
      repeat go_big_quiet_step (fail)
      refine wpQuiet_nil ?_
      refine text_end (by kernel_rfl) ?_
      replace hb := hb.trans (hW.mono hb.size)
      clear k0 k1 k2 l0 l1 l2 hW hne
      go_wp2
      go_roundw
      case rel => exact ⟨k + 1, by omega, by go_num, hb⟩
      case measure => simp [intOf]; omega
    · go_wp2
      go_ret
      exact ⟨rfl, hb⟩

theorem grown3 {w wr : World} {g k : Nat} {v0 v1 v2 : Value} (h : w.grownBy wr (some g)) : w.grownBy (((wr.setCell ⟨g, k, none⟩ v0).setCell ⟨g, k + 1, none⟩ v1).setCell ⟨g, k + 2, none⟩ v2) (some g) := by
  have one : ∀ (u : World) (j : Nat) (v : Value), w.grownBy u (some g) → w.grownBy (u.setCell ⟨g, j, none⟩ v) (some g) := fun u j v h =>
    ⟨h.os, h.tape, h.output, by simpa [World.setCell] using h.size, fun i hi hne => by rw [Below.heap_setCell _ _ _ _ (by intro e; apply hne; simp [e])]; exact h.block i hi hne⟩
  exact one _ _ _ (one _ _ _ (one _ _ _ h))

/-- Marks, three cells an act. -/
def actMarks (c : Int) (n : Nat) : List ActD := (List.range n).map fun (i : Nat) => ⟨c + ((i * 3 : Nat) : Int), c + ((i * 3 + 1 : Nat) : Int), c + ((i * 3 + 2 : Nat) : Int)⟩
theorem actMarks_length (c : Int) (n : Nat) : (actMarks c n).length = n := by simp [actMarks]
theorem actMarks_getD (c : Int) (n i : Nat) (h : i < n) : (actMarks c n).getD i actNo = ⟨c + ((i * 3 : Nat) : Int), c + ((i * 3 + 1 : Nat) : Int), c + ((i * 3 + 2 : Nat) : Int)⟩ := by simp [actMarks, List.getD, h]

end Go.Proofs.Yticfbapipdhhmaa

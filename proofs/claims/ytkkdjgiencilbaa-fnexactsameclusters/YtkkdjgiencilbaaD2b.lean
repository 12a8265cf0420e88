/- What the helpers of the laws on lists of acts do: they compare, mark, and look for marks. -/
import Derived.Test.YtkkdjgiencilbaaD2
import Derived.Test.YtkkdjgiencilbaaText
namespace Go.Proofs.Ytkkdjgiencilbaa
open Go.RowKit
open Go.BigFrame
set_option linter.unusedVariables false
set_option linter.unusedSimpArgs false

set_option maxHeartbeats 1000000 in
theorem eqAct_true (k y v : Int) (w : World) :
    Calls Try.prog 98 #[.agg #[.int .i64 k, .int .i64 y, .int .i64 v], .agg #[.int .i64 k, .int .i64 y, .int .i64 v]] w fun e w' => e = .returned (.bool true) ∧ Below w.heap.size w w' := by
  have h0 : (k != k) = false := by simp
  have h1 : (y != y) = false := by simp
  have h2 : (v != v) = false := by simp
  go_enter Try.func98, Try.ntmps98
  go_wp2
  go_ret
  exact ⟨rfl, by go_grown⟩

theorem lat_cell {w : World} {a : Addr} {v : Value} (h : w.cell? a = some v) : ∀ u : Lat w, u.val.cell? a = some v := fun u => by
  rw [u.isBelow.cell (World.block_lt_of_cell? w a h)]; exact h

set_option maxHeartbeats 2000000 in
theorem eqActS_true (a a' : Option Addr) (cap cap' : Nat) (zs : List ActD) (w : World) (h : ActRow w a zs) (h' : ActRow w a' zs) (hl : zs.length ≤ 1099511627776) :
    Calls Try.prog 72 #[.slice a zs.length cap, .slice a' zs.length cap'] w fun e w' => e = .returned (.bool true) ∧ Below w.heap.size w w' := by
  go_enter Try.func72, Try.ntmps72
  go_wp2
  go_loopw [5] (fun i wr => ∃ k : Nat, k ≤ zs.length ∧ i = .int .i64 k ∧ Below w.heap.size w wr) (fun i _ => zs.length - (intOf i).toNat)
  case atStart => exact ⟨0, Nat.zero_le _, rfl, Below.refl _ _⟩
  case round =>
    obtain ⟨k, hk, rfl, hb⟩ := hrel
    by_cases hlt : k < zs.length
    · obtain ⟨b, off, rfl, hbs, hc0, hc1, hc2⟩ := (h.below hb).at k hlt
      obtain ⟨b', off', rfl, hbs', hd0, hd1, hd2⟩ := (h'.below hb).at k hlt
      generalize zs.getD k actNo = z at hc0 hc1 hc2 hd0 hd1 hd2
      obtain ⟨z0, z1, z2⟩ := z
      have k0 := lat_cell hc0
      have k1 := lat_cell hc1
      have k2 := lat_cell hc2
      have l0 := lat_cell hd0
      have l1 := lat_cell hd1
      have l2 := lat_cell hd2
      clear hc0 hc1 hc2 hd0 hd1 hd2
      have hW : Below wr.heap.size wr wr.drew := (Below.refl _ _).drew
      have hne : Nonempty (Lat wr) := ⟨⟨wr, Below.refl _ _⟩⟩
      go_wp2_with fail
      refine text_begin (S := fun w' => ∃ u : Lat wr, w' = u.val) (by kernel_rfl) ?_
      refine sgr [(0, 8)] 2 (by kernel_rfl) ⟨⟨_, hW⟩, rfl⟩ ?_
      simp only [pkE]
      repeat go_big_quiet_step (fail)
      refine wpQuiet_nil ?_
      refine cla 8 (some 25) 98 #[.agg #[.int .i64 z0, .int .i64 z1, .int .i64 z2], .agg #[.int .i64 z0, .int .i64 z1, .int .i64 z2]] 1 (by kernel_rfl) ?_
      refine (eqAct_true _ _ _ _).mono ?_
      rintro e w2 ⟨rfl, hb2⟩
      replace hW := hW.trans (hb2.mono hW.size)
      clear hb2
      refine ⟨_, rfl, ⟨⟨_, hW⟩, rfl⟩, ?_⟩
      simp only [Act.put, pjE]
      refine sgr [(9, 1)] 0 (by kernel_rfl) ⟨⟨_, hW⟩, rfl⟩ ?_
      simp only [pkE]
      repeat go_big_quiet_step (fail)
      refine wpQuiet_nil ?_
      refine text_end (by kernel_rfl) ?_
      replace hb := hb.trans (hW.mono hb.size)
      clear k0 k1 k2 l0 l1 l2 hW hne
      go_wp2
      go_roundw
      case rel => exact ⟨k + 1, by omega, by go_num, hb⟩
      case measure => simp [intOf]; omega
    · go_wp2
      go_ret
      exact ⟨rfl, hb⟩

theorem grown3 {w wr : World} {g k : Nat} {v0 v1 v2 : Value} (h : w.grownBy wr (some g)) : w.grownBy (((wr.setCell ⟨g, k, none⟩ v0).setCell ⟨g, k + 1, none⟩ v1).setCell ⟨g, k + 2, none⟩ v2) (some g) := by
  have one : ∀ (u : World) (j : Nat) (v : Value), w.grownBy u (some g) → w.grownBy (u.setCell ⟨g, j, none⟩ v) (some g) := fun u j v h =>
    ⟨h.os, h.tape, h.output, by simpa [World.setCell] using h.size, fun i hi hne => by rw [Below.heap_setCell _ _ _ _ (by intro e; apply hne; simp [e])]; exact h.block i hi hne⟩
  exact one _ _ _ (one _ _ _ (one _ _ _ h))

/-- Marks, three cells an act. -/
def actMarks (c : Int) (n : Nat) : List ActD := (List.range n).map fun (i : Nat) => ⟨c + ((i * 3 : Nat) : Int), c + ((i * 3 + 1 : Nat) : Int), c + ((i * 3 + 2 : Nat) : Int)⟩
theorem actMarks_length (c : Int) (n : Nat) : (actMarks c n).length = n := by simp [actMarks]
theorem actMarks_getD (c : Int) (n i : Nat) (h : i < n) : (actMarks c n).getD i actNo = ⟨c + ((i * 3 : Nat) : Int), c + ((i * 3 + 1 : Nat) : Int), c + ((i * 3 + 2 : Nat) : Int)⟩ := by simp [actMarks, List.getD, h]

set_option maxHeartbeats 2000000 in
theorem markActS_any (base : Nat) (v : Value) (n : Nat) (xs : List Value) (c : Int) (w : World) (h : w.ownsRow base 131 3 v n xs) (hn : n ≤ 1099511627776) (h0 : 0 ≤ c) (h1 : c ≤ 1099511627776) :
    Calls Try.prog 50 #[v, .int .i64 c] w fun e w' => e = .returned (.int .i64 (c + ((n * 3 : Nat) : Int))) ∧ w'.ownsRow base 131 3 v n (actCells (actMarks c n)) ∧ w.grownBy w' v.ownBlock := by
  rcases h.2 with ⟨rfl, rfl⟩ | ⟨g, cap, cur, rfl, hb, hg, r⟩
  · go_enter Try.func50, Try.ntmps50
    go_wp2
    refine wp_loop_rounds 1 ?_
    rw [rounds_succ]
    go_wp2
    go_ret
    exact ⟨by simp, World.ownsRow_nil _ _ _ _, World.grownBy.refl _ _⟩
  · clear hg r
    have hml := actCells_length (actMarks c n)
    rw [actMarks_length] at hml
    have hxl : xs.length = (actCells (actMarks c n)).length := by rw [hml]; exact h.1
    rw [← layV_zero (actCells (actMarks c n)) xs] at h
    go_enter Try.func50, Try.ntmps50
    go_wp2
    go_loopw [1, 5] (fun j i wr => ∃ k : Nat, k ≤ n ∧ j = .int .i64 (c + ((k * 3 : Nat) : Int)) ∧ i = .int .i64 k ∧ wr.ownsRow base 131 3 (.slice (some ⟨g, 0, none⟩) n cap) n (layV (actCells (actMarks c n)) xs (k * 3)) ∧ w.grownBy wr (some g)) (fun _ i _ => n - (intOf i).toNat)
    case atStart => exact ⟨0, Nat.zero_le _, by simp, rfl, by simpa using h, World.grownBy.refl _ _⟩
    case round =>
      obtain ⟨k, hk, rfl, rfl, ho, hgr⟩ := hrel
      by_cases hlt : k < n
      · obtain ⟨g0, g1, g2⟩ := actCells_get (actMarks c n) k (by rw [actMarks_length]; exact hlt)
        rw [actMarks_getD _ _ _ hlt] at g0 g1 g2
        obtain ⟨hst, ⟨f0, f1, f2⟩, ⟨⟨u0, e0⟩, ⟨u1, e1⟩, ⟨u2, e2⟩⟩, _⟩ := lay3 ho hxl hml hlt g0 g1 g2
        have hgr2 := grown3 hgr (g := g) (k := k * 3) (v0 := .int .i64 (c + ((k * 3 : Nat) : Int))) (v1 := .int .i64 (c + ((k * 3 + 1 : Nat) : Int))) (v2 := .int .i64 (c + ((k * 3 + 2 : Nat) : Int)))
        have R : Hid (_ ∧ _) := ⟨hst, hgr2⟩
        have e01 : c + ((k * 3 + 1 : Nat) : Int) = c + ((k * 3 : Nat) : Int) + 1 := by omega
        have e02 : c + ((k * 3 + 2 : Nat) : Int) = c + ((k * 3 : Nat) : Int) + 1 + 1 := by omega
        have e03 : Hid (c + (((k + 1) * 3 : Nat) : Int) = c + ((k * 3 : Nat) : Int) + 1 + 1 + 1) := show _ = _ by omega
        rw [e01, e02] at R
        clear hst hgr2 g0 g1 g2 ho hgr e01 e02
        generalize hy : ((k * 3 : Nat) : Int) = y at R e03
        have hy1 : y ≤ 3298534883328 := by omega
        have hy0 : 0 ≤ y := by omega
        clear hy
        go_wp2
        go_roundw
        case rel => exact ⟨k + 1, by omega, by rw [e03.out], by go_num, R.out.1, R.out.2⟩
        case measure => simp [intOf]; omega
      · go_wp2
        go_ret
        have hkl : k = n := by omega
        subst hkl
        rw [layV_all _ _ _ hxl hml] at ho
        exact ⟨rfl, ho, hgr⟩

set_option maxHeartbeats 2000000 in
theorem heldActS_true (a : Option Addr) (n cap : Nat) (c : Int) (w : World) (h : ActRow w a (actMarks c n)) (hn : n ≤ 1099511627776) (h0 : 0 ≤ c) (h1 : c ≤ 1099511627776) :
    Calls Try.prog 74 #[.slice a n cap, .int .i64 c] w fun e w' => e = .returned (.int .i64 (c + ((n * 3 : Nat) : Int))) ∧ w' = w := by
  go_enter Try.func74, Try.ntmps74
  go_wp2
  go_loop [1, 5] (fun j i => ∃ k : Nat, k ≤ n ∧ j = .int .i64 (c + ((k * 3 : Nat) : Int)) ∧ i = .int .i64 k) (fun _ i => n - (intOf i).toNat)
  case atStart => exact ⟨0, Nat.zero_le _, by simp, rfl⟩
  case round =>
    obtain ⟨k, hk, rfl, rfl⟩ := hrel
    by_cases hlt : k < n
    · obtain ⟨b, off, rfl, hbs, hc0, hc1, hc2⟩ := h.at k (by rw [actMarks_length]; exact hlt)
      rw [actMarks_getD _ _ _ hlt] at hc0 hc1 hc2
      have e01 : c + ((k * 3 + 1 : Nat) : Int) = c + ((k * 3 : Nat) : Int) + 1 := by omega
      have e02 : c + ((k * 3 + 2 : Nat) : Int) = c + ((k * 3 : Nat) : Int) + 1 + 1 := by omega
      have e03 : Hid (c + (((k + 1) * 3 : Nat) : Int) = c + ((k * 3 : Nat) : Int) + 1 + 1 + 1) := show _ = _ by omega
      dsimp only at hc0 hc1 hc2
      rw [e01] at hc1
      rw [e02] at hc2
      clear e01 e02
      generalize hy : ((k * 3 : Nat) : Int) = y at hc0 hc1 hc2 e03
      have hy1 : y ≤ 3298534883328 := by omega
      have hy0 : 0 ≤ y := by omega
      clear hy
      go_wp2
      go_round
      case rel => exact ⟨k + 1, by omega, by rw [e03.out], by go_num⟩
      case measure => simp [intOf]; omega
    · go_wp2
      go_ret
      have hkl : k = n := by omega
      subst hkl
      exact ⟨rfl, rfl⟩

end Go.Proofs.Ytkkdjgiencilbaa

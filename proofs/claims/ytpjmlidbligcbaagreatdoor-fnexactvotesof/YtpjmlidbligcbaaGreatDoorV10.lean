/- The struct Vote as plain data: when memory reads as a list of them; what the helpers of the laws do on such lists. No condition. -/
import Derived.Test.YtpjmlidbligcbaaGreatDoorGB
namespace Go.Proofs.YtpjmlidbligcbaaGreatDoor
open Go.RowKit
open Go.BigFrame
set_option linter.unusedVariables false
set_option maxRecDepth 100000
set_option linter.unusedSimpArgs false

structure VoteD where
  kind : Int
  round : Int
  node : Int
  value : Int
deriving DecidableEq
def voteNo : VoteD := ⟨0, 0, 0, 0⟩
def VoteD.cells (x : VoteD) : List Value := [.int .i64 x.kind, .int .i64 x.round, .int .i64 x.node, .int .i64 x.value]
def voteCells (xs : List VoteD) : List Value := xs.flatMap VoteD.cells
def VoteRow (w : World) (a : Option Addr) (xs : List VoteD) : Prop := Lies w a (voteCells xs)

theorem voteCells_length (xs : List VoteD) : (voteCells xs).length = xs.length * 4 := by
  induction xs with
  | nil => rfl
  | cons x xs ih => simp only [voteCells, List.flatMap_cons, List.length_append, List.length_cons] at ih ⊢; rw [ih]; simp [VoteD.cells]; omega

theorem voteCells_append (xs ys : List VoteD) : voteCells (xs ++ ys) = voteCells xs ++ voteCells ys := by simp [voteCells]

theorem voteCells_one (x : VoteD) : voteCells [x] = x.cells := by simp [voteCells]

theorem voteCells_get (xs : List VoteD) : ∀ (i : Nat), i < xs.length → (voteCells xs)[i * 4]? = some (.int .i64 (xs.getD i voteNo).kind) ∧ (voteCells xs)[i * 4 + 1]? = some (.int .i64 (xs.getD i voteNo).round) ∧ (voteCells xs)[i * 4 + 2]? = some (.int .i64 (xs.getD i voteNo).node) ∧ (voteCells xs)[i * 4 + 3]? = some (.int .i64 (xs.getD i voteNo).value) := by
  induction xs with
  | nil => intro i h; simp at h
  | cons x xs ih =>
    intro i h
    cases i with
    | zero => simp [voteCells, VoteD.cells]
    | succ i =>
      have e : voteCells (x :: xs) = x.cells ++ voteCells xs := rfl
      have hl : x.cells.length = 4 := rfl
      obtain ⟨h1, h2, h3, h4⟩ := ih i (by simpa using h)
      rw [e, List.getElem?_append_right (by omega), List.getElem?_append_right (by omega), List.getElem?_append_right (by omega), List.getElem?_append_right (by omega), hl, show (i + 1) * 4 - 4 = i * 4 by omega, show (i + 1) * 4 + 1 - 4 = i * 4 + 1 by omega, show (i + 1) * 4 + 2 - 4 = i * 4 + 2 by omega, show (i + 1) * 4 + 3 - 4 = i * 4 + 3 by omega]
      simpa [List.getD] using ⟨h1, h2, h3, h4⟩

theorem VoteRow.below {w w' : World} {a : Option Addr} {xs : List VoteD} (h : VoteRow w a xs) (hb : Below w.heap.size w w') : VoteRow w' a xs := Lies.below h hb

theorem VoteRow.at {w : World} {a : Option Addr} {xs : List VoteD} (h : VoteRow w a xs) (i : Nat) (hi : i < xs.length) :
    ∃ b off, a = some ⟨b, off, none⟩ ∧ b < w.heap.size ∧ w.cell? ⟨b, off + i * 4, none⟩ = some (.int .i64 (xs.getD i voteNo).kind) ∧ w.cell? ⟨b, off + i * 4 + 1, none⟩ = some (.int .i64 (xs.getD i voteNo).round) ∧ w.cell? ⟨b, off + i * 4 + 2, none⟩ = some (.int .i64 (xs.getD i voteNo).node) ∧ w.cell? ⟨b, off + i * 4 + 3, none⟩ = some (.int .i64 (xs.getD i voteNo).value) := by
  obtain ⟨h1, h2, h3, h4⟩ := voteCells_get xs i hi
  rcases h with h | ⟨b, off, ha, hlt, hc⟩
  · have := voteCells_length xs
    rw [h] at this
    simp at this
    omega
  · exact ⟨b, off, ha, hlt, hc _ _ h1, by rw [Nat.add_assoc]; exact hc _ _ h2, by rw [Nat.add_assoc]; exact hc _ _ h3, by rw [Nat.add_assoc]; exact hc _ _ h4⟩

theorem infoVote : (Tryz.prog.info? 79).map (fun i => (i.zero, i.size, i.bytes)) = some (some (.agg #[.int .i64 0, .int .i64 0, .int .i64 0, .int .i64 0]), 4, 32) := by kernel_rfl

/-- The cells of one element are written over. -/
theorem layVote {w : World} {base e g cap n k : Nat} {zs ys : List Value} {v0 v1 v2 v3 : Value} (ho : w.ownsRow base e 4 (.slice (some ⟨g, 0, none⟩) n cap) n (layV zs ys (k * 4)))
    (hl : ys.length = zs.length) (hz : zs.length = n * 4) (hk : k < n) (g0 : zs[k * 4]? = some v0) (g1 : zs[k * 4 + 1]? = some v1) (g2 : zs[k * 4 + 2]? = some v2) (g3 : zs[k * 4 + 3]? = some v3) :
    ((((w.setCell ⟨g, k * 4, none⟩ v0).setCell ⟨g, k * 4 + 1, none⟩ v1).setCell ⟨g, k * 4 + 2, none⟩ v2).setCell ⟨g, k * 4 + 3, none⟩ v3).ownsRow base e 4 (.slice (some ⟨g, 0, none⟩) n cap) n (layV zs ys ((k + 1) * 4)) ∧
    (w.frozen? ⟨g, k * 4, none⟩ = false ∧ w.frozen? ⟨g, k * 4 + 1, none⟩ = false ∧ w.frozen? ⟨g, k * 4 + 2, none⟩ = false ∧ w.frozen? ⟨g, k * 4 + 3, none⟩ = false) ∧
    ((∃ u, w.cell? ⟨g, k * 4, none⟩ = some u) ∧ (∃ u, w.cell? ⟨g, k * 4 + 1, none⟩ = some u) ∧ (∃ u, w.cell? ⟨g, k * 4 + 2, none⟩ = some u) ∧ (∃ u, w.cell? ⟨g, k * 4 + 3, none⟩ = some u)) ∧
    (∀ B a, Below B a w → B ≤ g → Below B a ((((w.setCell ⟨g, k * 4, none⟩ v0).setCell ⟨g, k * 4 + 1, none⟩ v1).setCell ⟨g, k * 4 + 2, none⟩ v2).setCell ⟨g, k * 4 + 3, none⟩ v3)) := by
  have hc : ∀ j, j < n * 4 → ∃ u, w.cell? ⟨g, j, none⟩ = some u := fun j hj => by
    rw [ho.cellAt j hj]
    exact ⟨_, List.getElem?_eq_getElem (by rw [ho.1]; exact hj)⟩
  have s0 := (ho.stored (k * 4) v0).1
  rw [layV_step _ _ _ _ hl g0] at s0
  have s1 := (s0.stored (k * 4 + 1) v1).1
  rw [layV_step _ _ _ _ hl g1] at s1
  have s2 := (s1.stored (k * 4 + 2) v2).1
  rw [layV_step _ _ _ _ hl g2] at s2
  have s3 := (s2.stored (k * 4 + 3) v3).1
  rw [layV_step _ _ _ _ hl g3, show k * 4 + 3 + 1 = (k + 1) * 4 by omega] at s3
  exact ⟨s3, ⟨ho.frozenAt _, ho.frozenAt _, ho.frozenAt _, ho.frozenAt _⟩, ⟨hc _ (by omega), hc _ (by omega), hc _ (by omega), hc _ (by omega)⟩, fun B a h hB => ((((h.setCell hB _).setCell hB _).setCell hB _).setCell hB _)⟩

set_option maxHeartbeats 1000000 in
theorem eqVote_true (k : Int) (y : Int) (v : Int) (u : Int) (w : World) :
    Calls Tryz.prog 180 #[.agg #[.int .i64 k, .int .i64 y, .int .i64 v, .int .i64 u], .agg #[.int .i64 k, .int .i64 y, .int .i64 v, .int .i64 u]] w fun e w' => e = .returned (.bool true) ∧ Below w.heap.size w w' := by
  have h0 : (k != k) = false := by simp
  have h1 : (y != y) = false := by simp
  have h2 : (v != v) = false := by simp
  have h3 : (u != u) = false := by simp
  go_enter Tryz.func180, Tryz.ntmps180
  go_wp2
  go_ret
  exact ⟨rfl, by go_grown⟩

set_option maxHeartbeats 2000000 in
theorem eqVoteS_true (a a' : Option Addr) (cap cap' : Nat) (zs : List VoteD) (w : World) (h : VoteRow w a zs) (h' : VoteRow w a' zs) (hl : zs.length ≤ 1099511627776) :
    Calls Tryz.prog 120 #[.slice a zs.length cap, .slice a' zs.length cap'] w fun e w' => e = .returned (.bool true) ∧ Below w.heap.size w w' := by
  go_enter Tryz.func120, Tryz.ntmps120
  go_wp2
  go_loopw [5] (fun i wr => ∃ k : Nat, k ≤ zs.length ∧ i = .int .i64 k ∧ Below w.heap.size w wr) (fun i _ => zs.length - (intOf i).toNat)
  case atStart => exact ⟨0, Nat.zero_le _, rfl, Below.refl _ _⟩
  case round =>
    obtain ⟨k, hk, rfl, hb⟩ := hrel
    by_cases hlt : k < zs.length
    · obtain ⟨b, off, rfl, hbs, hc0, hc1, hc2, hc3⟩ := (h.below hb).at k hlt
      obtain ⟨b', off', rfl, hbs', hd0, hd1, hd2, hd3⟩ := (h'.below hb).at k hlt
      generalize zs.getD k voteNo = z at hc0 hc1 hc2 hc3 hd0 hd1 hd2 hd3
      obtain ⟨z0, z1, z2, z3⟩ := z
      have k0 := lat_cell hc0
      have l0 := lat_cell hd0
      have k1 := lat_cell hc1
      have l1 := lat_cell hd1
      have k2 := lat_cell hc2
      have l2 := lat_cell hd2
      have k3 := lat_cell hc3
      have l3 := lat_cell hd3
      clear hc0 hc1 hc2 hc3 hd0 hd1 hd2 hd3
      have hW : Below wr.heap.size wr wr.drew := (Below.refl _ _).drew
      have hne : Nonempty (Lat wr) := ⟨⟨wr, Below.refl _ _⟩⟩
      go_wp2_with fail
      refine text_begin (S := fun w' => ∃ u : Lat wr, w' = u.val) (by kernel_rfl) ?_
      refine seg_range [(0, 8)] 2 (by kernel_rfl) (by kernel_rfl) (by kernel_rfl) (by kernel_rfl) (by kernel_rfl) ⟨⟨_, hW⟩, rfl⟩ ?_
      simp only [pickR, List.toList_toArray, List.flatMap_cons, List.flatMap_nil, List.drop_succ_cons, List.drop_zero, List.take_succ_cons, List.take_zero, List.cons_append, List.nil_append, List.append_nil]
      repeat go_big_quiet_step (fail)
      refine wpQuiet_nil ?_
      refine call_at 8 (some 25) 180 #[.agg #[.int .i64 z0, .int .i64 z1, .int .i64 z2, .int .i64 z3], .agg #[.int .i64 z0, .int .i64 z1, .int .i64 z2, .int .i64 z3]] 1 (by kernel_rfl) (by kernel_rfl) (by kernel_rfl) (by kernel_rfl) (by kernel_rfl) ?_
      refine (eqVote_true _ _ _ _ _).mono ?_
      rintro e w2 ⟨rfl, hb2⟩
      replace hW := hW.trans (hb2.mono hW.size)
      clear hb2
      refine ⟨_, rfl, ⟨⟨_, hW⟩, rfl⟩, ?_⟩
      simp only [Act.put, List.setIfInBounds_toArray, List.set_cons_zero, List.set_cons_succ]
      refine seg_range [(9, 1)] 0 (by kernel_rfl) (by kernel_rfl) (by kernel_rfl) (by kernel_rfl) (by kernel_rfl) ⟨⟨_, hW⟩, rfl⟩ ?_
      simp only [pickR, List.toList_toArray, List.flatMap_cons, List.flatMap_nil, List.drop_succ_cons, List.drop_zero, List.take_succ_cons, List.take_zero, List.cons_append, List.nil_append, List.append_nil]
      repeat go_big_quiet_step (fail)
      refine wpQuiet_nil ?_
      refine text_end (by kernel_rfl) ?_
      replace hb := hb.trans (hW.mono hb.size)
      clear k0 l0 k1 l1 k2 l2 k3 l3 hW hne
      go_wp2
      go_roundw
      case rel => exact ⟨k + 1, by omega, by go_num, hb⟩
      case measure => simp [intOf]; omega
    · go_wp2
      go_ret
      exact ⟨rfl, hb⟩

theorem grownVote {w wr : World} {g k : Nat} {v0 v1 v2 v3 : Value} (h : w.grownBy wr (some g)) : w.grownBy ((((wr.setCell ⟨g, k, none⟩ v0).setCell ⟨g, k + 1, none⟩ v1).setCell ⟨g, k + 2, none⟩ v2).setCell ⟨g, k + 3, none⟩ v3) (some g) := by
  have one : ∀ (u : World) (j : Nat) (v : Value), w.grownBy u (some g) → w.grownBy (u.setCell ⟨g, j, none⟩ v) (some g) := fun u j v h =>
    ⟨h.os, h.tape, h.output, by simpa [World.setCell] using h.size, fun i hi hne => by rw [Below.heap_setCell _ _ _ _ (by intro e; apply hne; simp [e])]; exact h.block i hi hne⟩
  exact (one _ _ _ (one _ _ _ (one _ _ _ (one _ _ _ h))))

/-- Marks, 4 cells an element. -/
def voteMarks (c : Int) (n : Nat) : List VoteD := (List.range n).map fun (i : Nat) => ⟨c + ((i * 4 : Nat) : Int), c + ((i * 4 + 1 : Nat) : Int), c + ((i * 4 + 2 : Nat) : Int), c + ((i * 4 + 3 : Nat) : Int)⟩
theorem voteMarks_length (c : Int) (n : Nat) : (voteMarks c n).length = n := by simp [voteMarks]
theorem voteMarks_getD (c : Int) (n i : Nat) (h : i < n) : (voteMarks c n).getD i voteNo = ⟨c + ((i * 4 : Nat) : Int), c + ((i * 4 + 1 : Nat) : Int), c + ((i * 4 + 2 : Nat) : Int), c + ((i * 4 + 3 : Nat) : Int)⟩ := by simp [voteMarks, List.getD, h]

set_option maxHeartbeats 2000000 in
theorem markVoteS_any (base : Nat) (v : Value) (n : Nat) (xs : List Value) (c : Int) (w : World) (h : w.ownsRow base 79 4 v n xs) (hn : n ≤ 1099511627776) (h0 : 0 ≤ c) (h1 : c ≤ 1099511627776) :
    Calls Tryz.prog 127 #[v, .int .i64 c] w fun e w' => e = .returned (.int .i64 (c + ((n * 4 : Nat) : Int))) ∧ w'.ownsRow base 79 4 v n (voteCells (voteMarks c n)) ∧ w.grownBy w' v.ownBlock := by
  rcases h.2 with ⟨rfl, rfl⟩ | ⟨g, cap, cur, rfl, hb, hg, r⟩
  · go_enter Tryz.func127, Tryz.ntmps127
    go_wp2
    refine wp_loop_rounds 1 ?_
    rw [rounds_succ]
    go_wp2
    go_ret
    exact ⟨by simp, World.ownsRow_nil _ _ _ _, World.grownBy.refl _ _⟩
  · clear hg r
    have hml := voteCells_length (voteMarks c n)
    rw [voteMarks_length] at hml
    have hxl : xs.length = (voteCells (voteMarks c n)).length := by rw [hml]; exact h.1
    rw [← layV_zero (voteCells (voteMarks c n)) xs] at h
    go_enter Tryz.func127, Tryz.ntmps127
    go_wp2
    go_loopw [1, 5] (fun j i wr => ∃ k : Nat, k ≤ n ∧ j = .int .i64 (c + ((k * 4 : Nat) : Int)) ∧ i = .int .i64 k ∧ wr.ownsRow base 79 4 (.slice (some ⟨g, 0, none⟩) n cap) n (layV (voteCells (voteMarks c n)) xs (k * 4)) ∧ w.grownBy wr (some g)) (fun _ i _ => n - (intOf i).toNat)
    case atStart => exact ⟨0, Nat.zero_le _, by simp, rfl, by simpa using h, World.grownBy.refl _ _⟩
    case round =>
      obtain ⟨k, hk, rfl, rfl, ho, hgr⟩ := hrel
      by_cases hlt : k < n
      · obtain ⟨g0, g1, g2, g3⟩ := voteCells_get (voteMarks c n) k (by rw [voteMarks_length]; exact hlt)
        rw [voteMarks_getD _ _ _ hlt] at g0 g1 g2 g3
        obtain ⟨hst, ⟨f0, f1, f2, f3⟩, ⟨⟨u0, e0⟩, ⟨u1, e1⟩, ⟨u2, e2⟩, ⟨u3, e3⟩⟩, _⟩ := layVote ho hxl hml hlt g0 g1 g2 g3
        have hgr2 := grownVote hgr (g := g) (k := k * 4) (v0 := .int .i64 (c + ((k * 4 : Nat) : Int))) (v1 := .int .i64 (c + ((k * 4 + 1 : Nat) : Int))) (v2 := .int .i64 (c + ((k * 4 + 2 : Nat) : Int))) (v3 := .int .i64 (c + ((k * 4 + 3 : Nat) : Int)))
        have R : Hid (_ ∧ _) := ⟨hst, hgr2⟩
        have e01 : c + ((k * 4 + 1 : Nat) : Int) = c + ((k * 4 : Nat) : Int) + 1 := by omega
        have e02 : c + ((k * 4 + 2 : Nat) : Int) = c + ((k * 4 : Nat) : Int) + 1 + 1 := by omega
        have e03 : c + ((k * 4 + 3 : Nat) : Int) = c + ((k * 4 : Nat) : Int) + 1 + 1 + 1 := by omega
        have e99 : Hid (c + (((k + 1) * 4 : Nat) : Int) = c + ((k * 4 : Nat) : Int) + 1 + 1 + 1 + 1) := show _ = _ by omega
        rw [e01, e02, e03] at R
        clear hst hgr2 g0 g1 g2 g3 ho hgr e01 e02 e03
        generalize hy : ((k * 4 : Nat) : Int) = y at R e99
        have hy1 : y ≤ 4398046511104 := by omega
        have hy0 : 0 ≤ y := by omega
        clear hy
        go_wp2
        go_roundw
        case rel => exact ⟨k + 1, by omega, by rw [e99.out], by go_num, R.out.1, R.out.2⟩
        case measure => simp [intOf]; omega
      · go_wp2
        go_ret
        have hkl : k = n := by omega
        subst hkl
        rw [layV_all _ _ _ hxl hml] at ho
        exact ⟨rfl, ho, hgr⟩

set_option maxHeartbeats 2000000 in
theorem heldVoteS_true (a : Option Addr) (n cap : Nat) (c : Int) (w : World) (h : VoteRow w a (voteMarks c n)) (hn : n ≤ 1099511627776) (h0 : 0 ≤ c) (h1 : c ≤ 1099511627776) :
    Calls Tryz.prog 128 #[.slice a n cap, .int .i64 c] w fun e w' => e = .returned (.int .i64 (c + ((n * 4 : Nat) : Int))) ∧ w' = w := by
  go_enter Tryz.func128, Tryz.ntmps128
  go_wp2
  go_loop [1, 5] (fun j i => ∃ k : Nat, k ≤ n ∧ j = .int .i64 (c + ((k * 4 : Nat) : Int)) ∧ i = .int .i64 k) (fun _ i => n - (intOf i).toNat)
  case atStart => exact ⟨0, Nat.zero_le _, by simp, rfl⟩
  case round =>
    obtain ⟨k, hk, rfl, rfl⟩ := hrel
    by_cases hlt : k < n
    · obtain ⟨b, off, rfl, hbs, hc0, hc1, hc2, hc3⟩ := h.at k (by rw [voteMarks_length]; exact hlt)
      rw [voteMarks_getD _ _ _ hlt] at hc0 hc1 hc2 hc3
      have e01 : c + ((k * 4 + 1 : Nat) : Int) = c + ((k * 4 : Nat) : Int) + 1 := by omega
      have e02 : c + ((k * 4 + 2 : Nat) : Int) = c + ((k * 4 : Nat) : Int) + 1 + 1 := by omega
      have e03 : c + ((k * 4 + 3 : Nat) : Int) = c + ((k * 4 : Nat) : Int) + 1 + 1 + 1 := by omega
      have e99 : Hid (c + (((k + 1) * 4 : Nat) : Int) = c + ((k * 4 : Nat) : Int) + 1 + 1 + 1 + 1) := show _ = _ by omega
      dsimp only at hc0 hc1 hc2 hc3
      rw [e01] at hc1
      rw [e02] at hc2
      rw [e03] at hc3
      clear e01 e02 e03
      generalize hy : ((k * 4 : Nat) : Int) = y at hc0 hc1 hc2 hc3 e99
      have hy1 : y ≤ 4398046511104 := by omega
      have hy0 : 0 ≤ y := by omega
      clear hy
      go_wp2
      go_round
      case rel => exact ⟨k + 1, by omega, by rw [e99.out], by go_num⟩
      case measure => simp [intOf]; omega
    · go_wp2
      go_ret
      have hkl : k = n := by omega
      subst hkl
      exact ⟨rfl, rfl⟩

end Go.Proofs.YtpjmlidbligcbaaGreatDoor

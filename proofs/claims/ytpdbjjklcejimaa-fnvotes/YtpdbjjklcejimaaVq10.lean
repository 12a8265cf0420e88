/- The model's PackVote: the code and the bytes that the plain functions tell. No condition. -/
import Derived.Test.YtpdbjjklcejimaaVp10
import Derived.Test.YtpdbjjklcejimaaText
namespace Go.Proofs.Ytpdbjjklcejimaa
open Go.RowKit
open Go.BigFrame
set_option linter.unusedVariables false
set_option linter.unusedSimpArgs false

set_option maxHeartbeats 2000000 in
theorem l10Pack_any (b o : Nat) (k r n v : Int) (w : World) (hB : Box4 w b o (.int .i64 k) (.int .i64 r) (.int .i64 n) (.int .i64 v)) (h0 : voteF ⟨k, r, n, v⟩ = 0) :
    Calls Try.prog 33 #[.pointer (some ⟨b, o, none⟩)] w fun e w' => ∃ b c, e = .returned (.slice b (vpB ⟨k, r, n, v⟩).length c) ∧ w'.ownsRow w.heap.size 5 1 (.slice b (vpB ⟨k, r, n, v⟩).length c) (vpB ⟨k, r, n, v⟩).length ((vpB ⟨k, r, n, v⟩).map (Value.int .u8)) ∧ Below w.heap.size w w' := by
  obtain ⟨i0, hi, hz0, hz1, hz2⟩ := info_parts infoU8
  have hpp : ∀ a c w, Row .i64 w a [k, r, n, v] → Calls Try.prog 50 #[.slice a 4 c] w fun e w' => ∃ b c, e = .returned (.slice b (vpL ⟨k, r, n, v⟩).length c) ∧
      w'.ownsRow w.heap.size 5 1 (.slice b (vpL ⟨k, r, n, v⟩).length c) (vpL ⟨k, r, n, v⟩).length ((vpL ⟨k, r, n, v⟩).map (Value.int .u8)) ∧ Below w.heap.size w w' := by
    intro a c w h
    exact l1Pack_any a c [k, r, n, v] w h (by simp) (vote_short h0)
  have hsum : ∀ a c w, Row .u8 w a (vpL ⟨k, r, n, v⟩) → Calls Try.prog 51 #[.slice a (vpL ⟨k, r, n, v⟩).length c] w fun e w' => e = .returned (.int .i64 (sumL (vpL ⟨k, r, n, v⟩))) ∧ w' = w := by
    intro a c w h
    exact l1Sum_any a c (vpL ⟨k, r, n, v⟩) w h (vpL_u8 _) (by simp [vpL_len])
  have hL : (vpL ⟨k, r, n, v⟩).length ≤ 100 := by simp [vpL_len]
  have hE : Hid (vpB ⟨k, r, n, v⟩ = vpL ⟨k, r, n, v⟩ ++ put2 (sumL (vpL ⟨k, r, n, v⟩))) := rfl
  have hS := sumL_bounds (vpL ⟨k, r, n, v⟩)
  generalize vpB ⟨k, r, n, v⟩ = Z at hE
  generalize vpL ⟨k, r, n, v⟩ = L at hpp hsum hE hL hS
  generalize sumL L = S at hsum hE hS
  have hbs : b < w.heap.size := World.block_lt_of_cell? w ⟨b, o, none⟩ hB.c0
  clear h0
  have k0 := lat_cell hB.c0
  have k1 := lat_cell hB.c1
  have k2 := lat_cell hB.c2
  have k3 := lat_cell hB.c3
  have hW : Below w.heap.size w w.drew := (Below.refl _ _).drew
  have hne : Nonempty (Lat w) := ⟨⟨w, Below.refl _ _⟩⟩
  go_enter Try.func33, Try.ntmps33
  go_wp2_with fail
  refine text_begin (S := fun w' => ∃ u : Lat w, w' = u.val) (by kernel_rfl) ?_
  refine seg_range [(0, 16)] 3 (by kernel_rfl) (by kernel_rfl) (by kernel_rfl) (by kernel_rfl) (by kernel_rfl) ⟨⟨_, hW⟩, rfl⟩ ?_
  simp only [pickR, List.toList_toArray, List.flatMap_cons, List.flatMap_nil, List.drop_succ_cons, List.drop_zero, List.take_succ_cons, List.take_zero, List.cons_append, List.nil_append, List.append_nil]
  repeat go_big_quiet_step (fail)
  refine wpQuiet_nil ?_
  refine one_at 16 _ 2 (by kernel_rfl) rfl (by kernel_rfl) ?_
  clear k0 k1 k2 k3
  go_wp2
  have hW1 : Below w.heap.size w (w.alloc (.cells #[.int .i64 k, .int .i64 r, .int .i64 n, .int .i64 v] 2)).drew := ((Below.refl _ _).alloc (Nat.le_refl _) _).drew
  have ho1 : (w.alloc (.cells #[.int .i64 k, .int .i64 r, .int .i64 n, .int .i64 v] 2)).drew.ownsRow w.heap.size 2 1 (.slice (some ⟨w.heap.size, 0, none⟩) 4 4) 4 [.int .i64 k, .int .i64 r, .int .i64 n, .int .i64 v] := World.ownsRow_lit w #[_, _, _, _] 4 (Nat.le_refl _) (by decide) rfl
  refine ThenGo.to ⟨⟨⟨_, hW1⟩, rfl⟩, ?_⟩
  refine call_at 17 (some 22) 50 #[.slice (some ⟨w.heap.size, 0, none⟩) 4 4] 1 (by kernel_rfl) (by kernel_rfl) (by kernel_rfl) (by kernel_rfl) (by kernel_rfl) ?_
  refine (hpp _ _ _ (Row.own (zs := [k, r, n, v]) ho1)).mono ?_
  rintro e w2 ⟨b2, c2, rfl, o2, hb2⟩
  have hsz1 := hW1.size
  replace hW1 := below_from hW1 hb2
  clear hb2 hpp ho1
  refine ⟨_, rfl, ⟨⟨_, hW1⟩, rfl⟩, ?_⟩
  simp only [Act.put, List.setIfInBounds_toArray, List.set_cons_zero, List.set_cons_succ]
  refine seg_range [(18, 1)] 0 (by kernel_rfl) (by kernel_rfl) (by kernel_rfl) (by kernel_rfl) (by kernel_rfl) ⟨⟨_, hW1⟩, rfl⟩ ?_
  simp only [pickR, List.toList_toArray, List.flatMap_cons, List.flatMap_nil, List.drop_succ_cons, List.drop_zero, List.take_succ_cons, List.take_zero, List.cons_append, List.nil_append, List.append_nil]
  repeat go_big_quiet_step (fail)
  refine wpQuiet_nil ?_
  refine text_end (by kernel_rfl) ?_
  clear hW hne
  replace o2 := own_base o2 hsz1
  have hsz2 := hW1.size
  go_wp2_with fail
  refine (hsum _ _ _ (Row.own o2)).mono ?_
  rintro e w3 ⟨rfl, hw3⟩
  replace hw3 := hw3.symm
  subst hw3
  clear hsum
  have o3 := o2.alloc (.cells #[.int .u8 (S / 256), .int .u8 (S % 256)] 5)
  go_wp2_with (at_builtin; refine wpList_append_own _ rfl _ _ 22 rfl w.heap.size 5 i0 (.int .u8 0) 1 1 Try.underlying22 hi hz0 hz1 hz2 rfl (by decide) _ L.length (L.map (Value.int .u8)) rfl o3 ⟨w2.heap.size, 0, none⟩ 2 2 [.int .u8 (S / 256), .int .u8 (S % 256)] rfl rfl ?c1 ?c2 ?c3 ?c4 ?c5 ?_)
  case c1 =>
    intro j u hj
    match j, hj with
    | 0, hj => simp at hj; subst hj; simp [Addr.add]
    | 1, hj => simp at hj; subst hj; simp [Addr.add]
  case c2 => intro u hu; simp at hu; rcases hu with rfl | rfl <;> rfl
  case c3 => unfold maxLen; omega
  case c4 => omega
  case c5 => simp; omega
  intro v' w4 hown hgrow _
  obtain ⟨a4, c4, rfl⟩ := own_shape hown
  have R : Hid (∃ b c, Value.slice a4 (L.length + 2) c4 = .slice b Z.length c ∧ w4.ownsRow w.heap.size 5 1 (.slice b Z.length c) Z.length (Z.map (Value.int .u8)) ∧ Below w.heap.size w w4) := by
    have e : [S / 256, S % 256] = put2 S := by simp [put2]; omega
    rw [hE.out, ← e]
    refine ⟨a4, c4, by simp, by simpa using hown, ?_⟩
    exact (hW1.alloc hW1.size _).grown hgrow (by simp; have := hW1.size; omega) (fun j hj => (o2.lt j hj).1)
  clear hown hgrow o2 o3 hW1 hE hS
  go_wp2
  go_ret
  obtain ⟨b, c, e, r1, r2⟩ := R.out
  exact ⟨b, c, by simpa using e, r1, r2⟩

set_option maxHeartbeats 2000000 in
theorem specPackVote_any (k r n v : Int) (w : World) :
    Calls Try.prog 15 #[.agg #[.int .i64 k, .int .i64 r, .int .i64 n, .int .i64 v]] w fun e w' => ∃ b c, e = .returned (.agg #[.int .i64 (voteF ⟨k, r, n, v⟩), .slice b (vpR ⟨k, r, n, v⟩).length c]) ∧
      w'.ownsRow w.heap.size 5 1 (.slice b (vpR ⟨k, r, n, v⟩).length c) (vpR ⟨k, r, n, v⟩).length ((vpR ⟨k, r, n, v⟩).map (Value.int .u8)) ∧ Below w.heap.size w w' := by
  have hV0 := (box4_new w (.int .i64 k) (.int .i64 r) (.int .i64 n) (.int .i64 v) 26).below (w' := (w.alloc (.cells #[.int .i64 k, .int .i64 r, .int .i64 n, .int .i64 v] 26)).alloc (.cells #[.int .i64 0, .slice none 0 0] 32)) (by go_grown)
  have hR0 := Blk.new (w.alloc (.cells #[.int .i64 k, .int .i64 r, .int .i64 n, .int .i64 v] 26)) 32 #[.int .i64 0, .slice none 0 0]
  simp only [World.size_alloc] at hR0
  have hb0 : Below w.heap.size w ((w.alloc (.cells #[.int .i64 k, .int .i64 r, .int .i64 n, .int .i64 v] 26)).alloc (.cells #[.int .i64 0, .slice none 0 0] 32)) := by go_grown
  have hf := fun b w h => l10Fault_any b 0 k r n v w h
  by_cases h0 : voteF ⟨k, r, n, v⟩ = 0
  · have hp := fun b w h => l10Pack_any b 0 k r n v w h h0
    rw [show vpR ⟨k, r, n, v⟩ = vpB ⟨k, r, n, v⟩ from if_pos h0, h0]
    rw [h0] at hf
    generalize vpB ⟨k, r, n, v⟩ = Z at hp
    clear h0
    go_enter Try.func15, Try.ntmps15
    go_wp2_with fail
    generalize (w.alloc (.cells #[.int .i64 k, .int .i64 r, .int .i64 n, .int .i64 v] 26)).alloc (.cells #[.int .i64 0, .slice none 0 0] 32) = W at hV0 hR0 hb0
    refine (hf _ _ hV0).mono ?_
    rintro e w1 ⟨rfl, hw1⟩
    replace hw1 := hw1.symm
    subst hw1
    clear hf
    go_wp2_with fail
    refine (hp _ _ hV0).mono ?_
    rintro e w2 ⟨b2, c2, rfl, o2, hb2⟩
    have hlt := hR0.lt
    have hsz := hb0.size
    replace hR0 := hR0.below hb2
    replace hb0 := below_from hb0 hb2
    have hlt' := hR0.lt
    have q0 := hR0.cell 0 _ rfl
    have q1 := hR0.cell 1 _ rfl
    have g0 := hR0.frozen 0
    have g1 := hR0.frozen 1
    clear hR0 hp hb2 hV0
    go_wp2
    refine bodyPost_ret (v := .agg #[.int .i64 0, .slice b2 Z.length c2]) (by simp [results, Try.results15, go_sem, q0, q1]) rfl ⟨_, _, rfl, ?_, ?_⟩
    · refine own_base (base := W.heap.size) ?_ (by omega)
      repeat' (refine ownsRow_setCell_below ?_ (by dsimp only; omega) _)
      exact o2
    · repeat' (refine Below.setCell ?_ (by dsimp only; omega) _)
      exact hb0
  · rw [show vpR ⟨k, r, n, v⟩ = [] from if_neg h0]
    have hne : (voteF ⟨k, r, n, v⟩ != 0) = true := by simpa using h0
    clear h0
    generalize voteF ⟨k, r, n, v⟩ = E at hf hne
    go_enter Try.func15, Try.ntmps15
    go_wp2_with fail
    generalize (w.alloc (.cells #[.int .i64 k, .int .i64 r, .int .i64 n, .int .i64 v] 26)).alloc (.cells #[.int .i64 0, .slice none 0 0] 32) = W at hV0 hR0 hb0
    refine (hf _ _ hV0).mono ?_
    rintro e w1 ⟨rfl, hw1⟩
    replace hw1 := hw1.symm
    subst hw1
    have q0 := hR0.cell 0 _ rfl
    have q1 := hR0.cell 1 _ rfl
    have g0 := hR0.frozen 0
    have g1 := hR0.frozen 1
    have hlt := hR0.lt
    clear hR0 hf hV0
    go_wp2
    refine bodyPost_ret (v := .agg #[.int .i64 E, .slice none 0 0]) (by simp [results, Try.results15, go_sem, q0, q1]) rfl ⟨_, _, rfl, World.ownsRow_nil _ _ _ _, ?_⟩
    repeat' (refine Below.setCell ?_ (by dsimp only; omega) _)
    exact hb0

end Go.Proofs.Ytpdbjjklcejimaa

/- Bent lists of items, and the draws of chapter 3 that need no transaction. -/
import Derived.Test.YtjaoggkpnjkkpaaDraw3
namespace Go.Proofs.Ytjaoggkpnjkkpaa
open Go.RowKit Go.Maps
set_option linter.unusedVariables false
set_option linter.unusedSimpArgs false

theorem made9 : (madeCells #[Value.int .i64 0, .int .i64 0] (9 * 2)).toList = itemCells (List.replicate 9 itemNo) := by
  first | kernel_rfl | (simp [madeCells, itemCells, ItemD.cells, itemNo, List.replicate, List.range, List.range.loop])

set_option maxRecDepth 100000 in
set_option maxHeartbeats 4000000 in
theorem l3Bent_any (B b T : Nat) (w : World) (hS : Src B w b T) (hT : T ≤ 1000000) :
    Calls Try.prog 49 #[.pointer (some ⟨b, 0, none⟩)] w fun e w' => ∃ (a : Option Addr) (k : Nat) (xs : List ItemD), e = .returned (.slice a xs.length k) ∧ xs.length ≤ 9 ∧
      w'.ownsRow w.heap.size 94 2 (.slice a xs.length k) xs.length (itemCells xs) ∧ Src B w' b (T + 12) ∧ w.grownBy w' (some b) := by
  obtain ⟨i0, hi, hz0, hz1, hz2⟩ := info_parts infoItem
  have hlt := hS.lt
  go_enter Try.func49, Try.ntmps49
  go_wp2_with fail
  refine (l3Draw_any B b T w hS hT).mono ?_
  rintro e w1 ⟨a, k, xs, rfl, hxl, ho, hS1, hg⟩
  have hnb : some b ≠ Value.ownBlock _ := own_not3 ho (Or.inl hlt.2)
  go_wp2_with fail
  refine (next_any B b (T + 9) 12 w1 hS1 (by omega) (by omega)).mono ?_
  rintro e w2 ⟨r, rfl, hr, hS2, hg2⟩
  replace ho := ho.kept hg2 (Or.inr (fun e => hnb e.symm))
  replace hg := hg.trans hg2
  have hsz := hg.size
  have hlt2 := hS2.lt
  clear hr hg2 hS1
  by_cases hr0 : r = 0
  · subst hr0
    replace ho := ho.alloc (.cells #[.int .i64 1, .int .i64 20, .int .i64 21] 2)
    replace hg := hg.trans (World.grownBy_alloc w2 (.cells #[.int .i64 1, .int .i64 20, .int .i64 21] 2) (some b))
    go_wp2_with fail
    refine (pick_any B b (T + 9 + 1) w2.heap.size _ [1, 20, 21] _ (hS2.below (by go_grown)) (by omega) (World.ownsRow_lit w2 _ 3 (Nat.le_refl _) (by decide) rfl) (by simp) (by simp) (by simp [Value.ownBlock]; omega)).mono ?_
    rintro e w3 ⟨r3, rfl, hmem, hS3, hg3⟩
    replace ho := ho.kept hg3 (Or.inr (fun e => hnb e.symm))
    replace hg := hg.trans hg3
    have hlt3 := hS3.lt
    clear hmem hg3 hS2 hlt2
    replace ho := ho.alloc (.cells #[.int .i64 5, .int .i64 20001] 2)
    replace hg := hg.trans (World.grownBy_alloc w3 (.cells #[.int .i64 5, .int .i64 20001] 2) (some b))
    go_wp2_with fail
    refine (pick_any B b (T + 9 + 1 + 1) w3.heap.size _ [5, 20001] _ (hS3.below (by go_grown)) (by omega) (World.ownsRow_lit w3 _ 2 (Nat.le_refl _) (by decide) rfl) (by simp) (by simp) (by simp [Value.ownBlock]; omega)).mono ?_
    rintro e w4 ⟨r4, rfl, hmem, hS4, hg4⟩
    replace ho := ho.kept hg4 (Or.inr (fun e => hnb e.symm))
    replace hg := hg.trans hg4
    have hsz4 := hg.size
    clear hmem hg4 hS3 hlt3
    have ho2 := ho.alloc (.cells #[.int .i64 r3, .int .i64 r4] 94)
    go_wp2_with (at_builtin; refine wpList_append_own _ rfl _ _ 24 rfl w.heap.size 94 i0 (.agg #[.int .i64 0, .int .i64 0]) 2 16 Try.underlying24 hi hz0 hz1 hz2 rfl (by decide) _ xs.length (itemCells xs) rfl ho2 ⟨w4.heap.size, 0, none⟩ 1 1 [.int .i64 r3, .int .i64 r4] rfl rfl ?c1 ?c2 ?c3 ?c4 ?c5 ?_)
    all_goals try (case c1 => intro j u hj; match j, hj with | 0, hj => simp at hj; subst hj; simp [Addr.add] | 1, hj => simp at hj; subst hj; simp [Addr.add])
    all_goals try (case c2 => first | rfl | (intro u hu; simp at hu; rcases hu with rfl | rfl <;> rfl))
    all_goals try (case c3 => unfold maxLen; omega)
    all_goals try (case c4 => omega)
    all_goals try (case c5 => first | omega | (simp; omega))
    intro v' w5 hown hgrow _
    obtain ⟨a2, c2, rfl⟩ := own_shape hown
    have hW : Below w.heap.size w4 w5 := ((Below.refl w.heap.size w4).alloc hsz4 (.cells #[.int .i64 r3, .int .i64 r4] 94)).grown hgrow (by simp; omega) (fun j hj => (ho.lt j hj).1)
    have hS5 : Src B w5 b (T + 12) := ((hS4.below (w' := w4.alloc (.cells #[.int .i64 r3, .int .i64 r4] 94)) (by go_grown)).grown hgrow hnb (fun k hk => by have := (ho.lt k hk).1; omega)).mono (by omega)
    have R : Hid (w5.ownsRow w.heap.size 94 2 (.slice a2 (xs.length + 1) c2) (xs.length + 1) (itemCells (xs ++ [⟨r3, r4⟩])) ∧ w.grownBy w5 (some b)) := ⟨by rw [itemCells_snoc']; simpa using hown, grown_step hg hW⟩
    clear hgrow ho2 ho hown hW
    go_wp2
    go_ret
    exact ⟨a2, c2, xs ++ [⟨r3, r4⟩], by simp, by simp; omega, by simpa using R.out.1, hS5, R.out.2⟩
  · have hr0' : (r == 0) = false := by simpa using hr0
    by_cases hr1 : r = 1
    · subst hr1
      have hby : i0.bytes * 9 ≤ 281474976710656 := by rw [hz2]; omega
      have hmx : 9 ≤ maxLen := by unfold maxLen; omega
      clear hr0 hr0'
      go_wp2_with (at_make; refine wpList_make_full _ rfl _ _ 24 rfl w2.heap.size 94 i0 (.agg #[.int .i64 0, .int .i64 0]) 2 Try.underlying24 hi hz0 hz1 _ _ _ _ 9 rfl rfl rfl rfl hby hmx (Nat.le_refl _) ?_)
      intro w3 hown hgrow
      have hb3 : Below w2.heap.size w2 w3 := (Below.refl _ _).grown hgrow (Nat.le_refl _) (by simp)
      have R : Hid (w3.ownsRow w.heap.size 94 2 (.slice (some ⟨w2.heap.size, 0, none⟩) 9 9) 9 (itemCells (List.replicate 9 itemNo)) ∧ w.grownBy w3 (some b)) := ⟨by rw [← made9]; exact own_base hown hsz, grown_step hg (hb3.mono hsz)⟩
      have hS3 := hS2.below hb3
      clear hown hgrow hb3
      go_wp2
      go_ret
      exact ⟨_, _, List.replicate 9 itemNo, rfl, by simp, R.out.1, hS3.mono (by omega), R.out.2⟩
    · have hr1' : (r == 1) = false := by simpa using hr1
      by_cases hr2 : r = 2
      · subst hr2
        clear ho hr0 hr1 hr0' hr1'
        go_wp2
        go_loopw [3, 4] (fun v c wr => ∃ (j : Nat) (ys : List ItemD), c = .int .i64 j ∧ 11 ≤ j ∧ j ≤ 19 ∧ ys.length + 11 ≤ j ∧ wr.ownsRow w.heap.size 94 2 v ys.length (itemCells ys) ∧ Src B wr b (T + 9 + 1) ∧ w.grownBy wr (some b)) (fun _ c _ => 19 - (intOf c).toNat)
        case atStart => exact ⟨11, [], rfl, by omega, by omega, by simp, World.ownsRow_nil _ _ _ _, hS2, hg⟩
        case round =>
          clear hS2 hg hsz hlt2 hnb
          obtain ⟨j, ys, rfl, hj1, hj2, hyl, ho, hSr, hg⟩ := hrel
          have hsz := hg.size
          obtain ⟨a1, c1, rfl⟩ := own_shape ho
          by_cases hpos : j < 19
          · have hnb : some b ≠ Value.ownBlock _ := own_not3 ho (Or.inl hlt.2)
            have ho2 := ho.alloc (.cells #[.int .i64 j, .int .i64 0] 94)
            go_wp2_with (at_builtin; refine wpList_append_own _ rfl _ _ 24 rfl w.heap.size 94 i0 (.agg #[.int .i64 0, .int .i64 0]) 2 16 Try.underlying24 hi hz0 hz1 hz2 rfl (by decide) _ ys.length (itemCells ys) rfl ho2 ⟨wr.heap.size, 0, none⟩ 1 1 [.int .i64 j, .int .i64 0] rfl rfl ?c1 ?c2 ?c3 ?c4 ?c5 ?_)
            all_goals try (case c1 => intro j u hj; match j, hj with | 0, hj => simp at hj; subst hj; simp [Addr.add] | 1, hj => simp at hj; subst hj; simp [Addr.add])
            all_goals try (case c2 => first | rfl | (intro u hu; simp at hu; rcases hu with rfl | rfl <;> rfl))
            all_goals try (case c3 => unfold maxLen; omega)
            all_goals try (case c4 => omega)
            all_goals try (case c5 => first | omega | (simp; omega))
            intro v' w5 hown hgrow _
            obtain ⟨a2, c2, rfl⟩ := own_shape hown
            have hW : Below w.heap.size wr w5 := ((Below.refl w.heap.size wr).alloc hsz (.cells #[.int .i64 j, .int .i64 0] 94)).grown hgrow (by simp; omega) (fun j hj => (ho.lt j hj).1)
            have hS5 : Src B w5 b (T + 9 + 1) := ((hSr.below (w' := wr.alloc (.cells #[.int .i64 j, .int .i64 0] 94)) (by go_grown)).grown hgrow hnb (fun k hk => by have := (ho.lt k hk).1; omega))
            have R : Hid (w5.ownsRow w.heap.size 94 2 (.slice a2 (ys.length + 1) c2) (ys.length + 1) (itemCells (ys ++ [⟨j, 0⟩])) ∧ w.grownBy w5 (some b)) := ⟨by rw [itemCells_snoc']; simpa using hown, grown_step hg hW⟩
            clear hgrow ho2 ho hown hW
            go_wp2
            go_roundw
            case rel => exact ⟨j + 1, ys ++ [⟨j, 0⟩], by go_num, by omega, by omega, by simp; omega, by simpa using R.out.1, hS5, R.out.2⟩
            case measure => simp [intOf]; omega
          · go_wp2
            go_ret
            exact ⟨a1, c1, ys, rfl, by omega, ho, hSr.mono (by omega), hg⟩
      · have hr2' : (r == 2) = false := by simpa using hr2
        clear hr0 hr1 hr2
        go_wp2
        go_ret
        exact ⟨a, k, xs, rfl, by omega, ho, hS2.mono (by omega), hg⟩

end Go.Proofs.Ytjaoggkpnjkkpaa

/- What the draws of chapter 1 tell at whatever bytes: some number, some bytes or some list in their bounds; nothing that was there is written into. -/
import Derived.Test.YtbionobcbbmbjabPack
import Derived.Test.YtbionobcbbmbjabDraw
namespace Go.Proofs.Ytbionobcbbmbjab
open Go.RowKit
set_option linter.unusedVariables false
set_option linter.unusedSimpArgs false

/-- What is written into rows other than the source's, and into new memory, leaves the source. -/
theorem Src.grown {B b T : Nat} {w w' : World} {row : Option Nat} (h : Src B w b T) (hg : w.grownBy w' row) (hne : some b ≠ row) (hB : ∀ k, row = some k → B ≤ k) : Src B w' b T :=
  h.kept hg.size (hg.block b h.lt.2 hne) (fun k hk => hg.block k (by have := h.lt; omega) (fun e => by have := hB k e.symm; omega))

theorem grown_of_below {w w' : World} (h : Below w.heap.size w w') (row : Option Nat) : w.grownBy w' row := ⟨h.os, h.tape, h.output, h.size, fun k hk _ => h.block k hk⟩

set_option maxHeartbeats 1000000 in
theorem number_any (B b T : Nat) (w : World) (hS : Src B w b T) (hT : T ≤ 1000000) :
    Calls Try.prog 40 #[.pointer (some ⟨b, 0, none⟩)] w fun e w' => ∃ r : Int, e = .returned (.int .i64 r) ∧ shortB r = true ∧ Src B w' b (T + 2) ∧ w.grownBy w' (some b) := by
  go_enter Try.func40, Try.ntmps40
  go_wp2_with fail
  refine (next_any B b T 1000 w hS (by omega) (by omega)).mono ?_
  rintro e w1 ⟨r, rfl, hr, hS1, hg1⟩
  have hr1 := hr.1
  have hr2 := hr.2.1 (by omega)
  have hlt := hS1.lt
  go_wp2_with fail
  refine (pick_any B b (T + 1) w1.heap.size _ [0, 1, -1, 300, 32767, -32768, r] _ (hS1.below (by go_grown)) (by omega) (World.ownsRow_lit w1 _ 7 (Nat.le_refl _) (by decide) rfl) (by simp) (by simp) (by simp [Value.ownBlock]; omega)).mono ?_
  rintro e w2 ⟨r2, rfl, hmem, hS2, hg2⟩
  have hsh : shortB r2 = true := by
    refine short_mk ?_
    simp at hmem
    omega
  have hg : w.grownBy w2 (some b) := (hg1.trans (World.grownBy_alloc w1 _ _)).trans hg2
  clear hmem hg1 hg2
  go_wp2
  go_ret
  exact ⟨r2, rfl, hsh, hS2, hg⟩

set_option maxHeartbeats 2000000 in
theorem some_any (B b T : Nat) (n : Int) (w : World) (hS : Src B w b T) (hT : T ≤ 1000000) (hn : n ≤ 1000) :
    Calls Try.prog 47 #[.pointer (some ⟨b, 0, none⟩), .int .i64 n] w fun e w' => ∃ (a : Option Addr) (k : Nat) (ys : List Int), e = .returned (.slice a ys.length k) ∧ ys.length ≤ 1000 ∧ (ys.length : Int) ≤ max n 0 ∧ (∀ i, 0 ≤ ys.getD i 0 ∧ ys.getD i 0 ≤ 255) ∧
      w'.ownsRow w.heap.size 5 1 (.slice a ys.length k) ys.length (ys.map (Value.int .u8)) ∧ Src B w' b (T + 1000) ∧ w.grownBy w' (some b) := by
  obtain ⟨i0, hi, hz0, hz1, hz2⟩ := info_parts infoU8
  have hlt := hS.lt
  go_enter Try.func47, Try.ntmps47
  go_wp2
  go_loopw [1, 5] (fun c v wr => ∃ (j : Int) (ys : List Int), c = .int .i64 j ∧ j ≤ 1000 ∧ (j ≤ n ∧ (0 ≤ j ∨ j = n)) ∧ ys.length ≤ 1000 ∧ ((ys.length : Int) = n - j) ∧ Hid (∀ i, 0 ≤ ys.getD i 0 ∧ ys.getD i 0 ≤ 255) ∧ wr.ownsRow w.heap.size 5 1 v ys.length (ys.map (Value.int .u8)) ∧ Src B wr b (T + ys.length) ∧ w.grownBy wr (some b)) (fun c _ _ => (intOf c).toNat)
  case atStart =>
    refine ⟨n, [], rfl, hn, ⟨by omega, Or.inr rfl⟩, by simp, by simp, fun i => by simp [List.getD], World.ownsRow_lit w #[] 0 (Nat.le_refl _) (by decide) rfl, hS.below (by go_grown), World.grownBy_alloc w _ _⟩
  case round =>
    obtain ⟨j, ys, rfl, hj, hjn, hyl, hyn, HU, ho, hSr, hg⟩ := hrel
    have hsz := hg.size
    by_cases hpos : 0 < j
    · have hnb : some b ≠ Value.ownBlock _ := own_not ho (Or.inl hlt.2)
      have hnx := next_any B b (T + ys.length) 256 wr hSr (by omega) (by omega)
      go_wp2_with (first | (go_at_call 41; refine hnx.mono ?_; rintro e w1 ⟨r, rfl, hr, hS1, hg1⟩; have hr1 := hr.1; have hr2 := hr.2.1 (by omega); have ho1 := ho.kept hg1 (Or.inr (fun e => hnb e.symm)); clear hnx) | (at_builtin; refine wpList_append_own _ rfl _ _ 22 rfl w.heap.size 5 i0 (.int .u8 0) 1 1 Try.underlying22 hi hz0 hz1 hz2 rfl (by decide) _ ys.length (ys.map (Value.int .u8)) rfl (ho1.alloc _) ⟨_, 0, none⟩ 1 1 [.int .u8 r] rfl rfl ?c1 ?c2 ?c3 ?c4 ?c5 ?_))
      case c1 => exact cell_one_new _ _ _
      case c2 => intro u hu; simp at hu; subst hu; rfl
      case c3 => unfold maxLen; omega
      case c4 => omega
      case c5 => have := hg1.size; simp; omega
      intro v' w2 hown hgrow _
      have hS2 : Src B w2 b (T + ys.length + 1) := (hS1.below (w' := w1.alloc (.cells #[.int .u8 r] 5)) (by go_grown)).grown hgrow hnb (fun k hk => by have := (ho1.lt k hk).1; omega)
      have hg2 : w.grownBy w2 (some b) := by
        refine ⟨hgrow.os.trans (hg1.os.trans hg.os), hgrow.tape.trans (hg1.tape.trans hg.tape), hgrow.output.trans (hg1.output.trans hg.output), by have := hgrow.size; have := hg1.size; simp at *; omega, fun k hk hne => ?_⟩
        have e1 := hg.block k hk hne
        have e2 := hg1.block k (by omega) hne
        have e3 := hgrow.block k (by have := hg1.size; simp; omega) (fun e => by have := (ho1.lt k e.symm).1; omega)
        rw [e3, Below.heap_alloc _ _ _ (by have := hg1.size; omega), e2, e1]
      have hon : w2.ownsRow w.heap.size 5 1 v' (ys ++ [r]).length ((ys ++ [r]).map (Value.int .u8)) := by simpa using hown
      have HU2 : Hid (∀ i, 0 ≤ (ys ++ [r]).getD i 0 ∧ (ys ++ [r]).getD i 0 ≤ 255) := by
        intro i
        have := HU.out i
        simp only [List.getD, List.getElem?_append] at *
        by_cases hi : i < ys.length
        · rw [if_pos hi]; exact this
        · rw [if_neg hi]
          by_cases h0 : i - ys.length = 0
          · rw [h0]; simp; omega
          · rw [List.getElem?_eq_none (by simp; omega)]; simp
      clear hown hgrow ho ho1
      go_wp2
      go_roundw
      case rel => exact ⟨j - 1, ys ++ [r], rfl, by omega, ⟨by omega, Or.inl (by omega)⟩, by simp; omega, by simp; omega, HU2, hon, hS2.mono (by simp; omega), hg2⟩
      case measure => simp [intOf]; omega
    · obtain ⟨a1, c1, rfl⟩ := own_shape ho
      go_wp2
      go_ret
      exact ⟨a1, c1, ys, rfl, hyl, by omega, HU.out, ho, hSr.mono (by omega), hg⟩

theorem below_of_src {w w' w1 : World} {b : Nat} (hb : Below w.heap.size w w1) (hg : w1.grownBy w' (some b)) (h : w.heap.size ≤ b) : Below w.heap.size w w' :=
  hb.grown hg hb.size (fun k hk => by simp at hk; omega)

set_option maxHeartbeats 1000000 in
theorem drawPut_any (a : Option Addr) (cap : Nat) (zs : List Int) (w : World) (h : Row .u8 w a zs) (hu : ∀ i, 0 ≤ zs.getD i 0 ∧ zs.getD i 0 ≤ 255) (hl : zs.length ≤ 1048576) :
    Calls Try.prog 13 #[.slice a zs.length cap] w fun e w' => ∃ r : Int, e = .returned (.int .i64 r) ∧ Below w.heap.size w w' := by
  go_enter Try.func13, Try.ntmps13
  go_wp2_with fail
  refine (source_any w.heap.size a cap zs w (Nat.le_refl _) hl hu h).mono ?_
  rintro e w1 ⟨rfl, hS, hb1⟩
  go_wp2_with fail
  refine (number_any w.heap.size w.heap.size 0 w1 hS (by omega)).mono ?_
  rintro e w2 ⟨r, rfl, hr, hS2, hg2⟩
  have b2 := below_of_src hb1 hg2 (Nat.le_refl _)
  have hlt := hS2.lt
  go_wp2_with fail
  refine (pick_any w.heap.size w.heap.size 2 w2.heap.size _ [r, 32768, -32769] _ (hS2.below (by go_grown)) (by omega) (World.ownsRow_lit w2 _ 3 (Nat.le_refl _) (by decide) rfl) (by simp) (by simp) (by simp [Value.ownBlock]; omega)).mono ?_
  rintro e w3 ⟨r3, rfl, hmem, hS3, hg3⟩
  have b3 := below_of_src (b2.alloc b2.size _) hg3 (Nat.le_refl _)
  clear hmem hg3
  go_wp2
  go_ret
  exact ⟨r3, rfl, b3⟩

set_option maxHeartbeats 1000000 in
theorem drawSum_any (a : Option Addr) (cap : Nat) (zs : List Int) (w : World) (h : Row .u8 w a zs) (hu : ∀ i, 0 ≤ zs.getD i 0 ∧ zs.getD i 0 ≤ 255) (hl : zs.length ≤ 1048576) :
    Calls Try.prog 16 #[.slice a zs.length cap] w fun e w' => ∃ (b : Option Addr) (k : Nat) (ys : List Int), e = .returned (.slice b ys.length k) ∧ ys.length ≤ 1000 ∧ (∀ i, 0 ≤ ys.getD i 0 ∧ ys.getD i 0 ≤ 255) ∧ Row .u8 w' b ys ∧ Below w.heap.size w w' := by
  go_enter Try.func16, Try.ntmps16
  go_wp2_with fail
  refine (source_any w.heap.size a cap zs w (Nat.le_refl _) hl hu h).mono ?_
  rintro e w1 ⟨rfl, hS, hb1⟩
  go_wp2_with fail
  refine (next_any w.heap.size w.heap.size 0 9 w1 hS (by omega) (by omega)).mono ?_
  rintro e w2 ⟨r, rfl, hr, hS2, hg2⟩
  have hr1 := hr.1
  have hr2 := hr.2.1 (by omega)
  have b2 := below_of_src hb1 hg2 (Nat.le_refl _)
  have hlt := hS2.lt
  go_wp2_with fail
  refine (pick_any w.heap.size w.heap.size 1 w2.heap.size _ [r, 500, 501, 0] _ (hS2.below (by go_grown)) (by omega) (World.ownsRow_lit w2 _ 4 (Nat.le_refl _) (by decide) rfl) (by simp) (by simp) (by simp [Value.ownBlock]; omega)).mono ?_
  rintro e w3 ⟨r3, rfl, hmem, hS3, hg3⟩
  have b3 := below_of_src (b2.alloc b2.size _) hg3 (Nat.le_refl _)
  have hr3 : r3 ≤ 1000 := by simp at hmem; omega
  clear hmem hg3 hg2
  go_wp2_with fail
  refine (some_any w.heap.size w.heap.size 2 r3 w3 hS3 (by omega) hr3).mono ?_
  rintro e w4 ⟨a4, k4, ys, rfl, hy1, hy2, hy3, ho4, hS4, hg4⟩
  have b4 := below_of_src b3 hg4 (Nat.le_refl _)
  clear hg4 b3 hy2
  go_wp2
  go_ret
  exact ⟨a4, k4, ys, rfl, hy1, hy3, Row.own ho4, b4⟩

set_option maxHeartbeats 1000000 in
theorem drawGet_any (a : Option Addr) (cap : Nat) (zs : List Int) (w : World) (h : Row .u8 w a zs) (hu : ∀ i, 0 ≤ zs.getD i 0 ∧ zs.getD i 0 ≤ 255) (hl : zs.length ≤ 1048576) :
    Calls Try.prog 15 #[.slice a zs.length cap] w fun e w' => ∃ (b : Option Addr) (k : Nat) (ys : List Int) (p : Int), e = .returned (.tuple #[.slice b ys.length k, .int .i64 p]) ∧ ys.length ≤ 1000 ∧ (∀ i, 0 ≤ ys.getD i 0 ∧ ys.getD i 0 ≤ 255) ∧ Row .u8 w' b ys ∧ Below w.heap.size w w' := by
  go_enter Try.func15, Try.ntmps15
  go_wp2_with fail
  refine (source_any w.heap.size a cap zs w (Nat.le_refl _) hl hu h).mono ?_
  rintro e w1 ⟨rfl, hS, hb1⟩
  go_wp2_with fail
  refine (next_any w.heap.size w.heap.size 0 6 w1 hS (by omega) (by omega)).mono ?_
  rintro e w2 ⟨r, rfl, hr, hS2, hg2⟩
  have hr1 := hr.1
  have hr2 := hr.2.1 (by omega)
  have b2 := below_of_src hb1 hg2 (Nat.le_refl _)
  clear hg2
  go_wp2_with fail
  refine (some_any w.heap.size w.heap.size 1 r w2 hS2 (by omega) (by omega)).mono ?_
  rintro e w3 ⟨a3, k3, ys, rfl, hy1, hy2, hy3, ho3, hS3, hg3⟩
  have b3 := below_of_src b2 hg3 (Nat.le_refl _)
  have hlt := hS2.lt
  have hnb : some w.heap.size ≠ Value.ownBlock _ := own_not ho3 (Or.inl hlt.2)
  clear hg3 hy2 b2
  go_wp2_with fail
  refine (next_any w.heap.size w.heap.size 1001 _ w3 hS3 (by omega) (by omega)).mono ?_
  rintro e w4 ⟨r4, rfl, hr4, hS4, hg4⟩
  have h41 := hr4.1
  have h42 := hr4.2.1 (by omega)
  have b4 := below_of_src b3 hg4 (Nat.le_refl _)
  have ho4 := ho3.kept hg4 (Or.inr (fun e => hnb e.symm))
  clear hg4 b3 hnb
  go_wp2
  go_ret2
  exact ⟨a3, k3, ys, _, rfl, hy1, hy3, Row.own ho4, b4⟩

end Go.Proofs.Ytbionobcbbmbjab

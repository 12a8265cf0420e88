/- CountVotes of the program and of its model: the same code and count. -/
import Derived.Test.YtonkbpnchcgmmaaS5s
namespace Go.Proofs.Ytonkbpnchcgmmaa
open Go.RowKit
set_option linter.unusedVariables false
set_option linter.unusedSimpArgs false

theorem vfault2 (zs : List Int) : vfault zs 2 = vf zs 2 := by simp [vfault, inB]
theorem vfault1 (zs : List Int) : vfault zs 1 = vf zs 1 := by simp [vfault, inB]

set_option maxHeartbeats 1000000 in
theorem implCount_any (a : Option Addr) (cap : Nat) (zs : List Int) (m v : Int) (w : World) (h : Row .i64 w a zs) (hm : zs.length ≤ 9223372036854775807) :
    Calls Try.prog 10 #[.slice a zs.length cap, .int .i64 m, .int .i64 v] w fun e w' => e = .returned (.agg #[.int .i64 (cvC zs m v), .int .i64 (cvV zs m v)]) ∧ Below w.heap.size w w' := by
  have hv := fun w h => votesFault_any a cap zs 2 w h hm
  rw [vfault2] at hv
  by_cases h0 : vf zs 2 = 0
  · have hl := vf_len h0
    have hvo := fun w h => votersOf_any a cap zs v w h hl
    rw [h0] at hv
    rw [hl] at hv ⊢
    by_cases h1 : inB m 0 7 = true
    · obtain ⟨q1, q2, q3⟩ := and_vot h1 zs v
      have hn := fun w => nodesIn_any _ w q1
      rw [q2] at hn
      by_cases h2 : inB v 0 3 = true
      · have e1 : cvC zs m v = 0 := by simp [cvC, h0, h1, h2]
        have e2 : cvV zs m v = cnt m zs v := by simp [cvV, e1]
        rw [e1, e2]
        clear e1 e2 q1 q2 q3 h0 hl
        generalize cnt m zs v = c at *
        generalize vot zs v = u at *
        go_enter Try.func10, Try.ntmps10
        go_wp2_with (first | (go_at_call 15; refine (hv _ (h.below (by go_grown))).mono ?_; rintro e w' ⟨rfl, rfl⟩) | (go_at_call 25; refine (isMask_any _ _).mono ?_; rintro e w' ⟨rfl, rfl⟩) | (go_at_call 26; refine (within_any _ _ _ _).mono ?_; rintro e w' ⟨rfl, rfl⟩) | (go_at_call 28; refine (hvo _ (h.below (by go_grown))).mono ?_; rintro e w' ⟨rfl, rfl⟩) | (go_at_call 27; refine (hn _).mono ?_; rintro e w' ⟨rfl, rfl⟩))
        exact bodyPost_ret (v := .agg #[.int .i64 0, .int .i64 c]) (by simp [results, Try.results10, go_sem]) rfl ⟨rfl, by go_grown⟩
      · have h2' : inB v 0 3 = false := by simpa using h2
        have e1 : cvC zs m v = 3 := by simp [cvC, h0, h1, h2']
        have e2 : cvV zs m v = 0 := by simp [cvV, e1]
        rw [e1, e2]
        clear e1 e2 q1 q2 q3 h0 hl h2 hn
        go_enter Try.func10, Try.ntmps10
        go_wp2_with (first | (go_at_call 15; refine (hv _ (h.below (by go_grown))).mono ?_; rintro e w' ⟨rfl, rfl⟩) | (go_at_call 25; refine (isMask_any _ _).mono ?_; rintro e w' ⟨rfl, rfl⟩) | (go_at_call 26; refine (within_any _ _ _ _).mono ?_; rintro e w' ⟨rfl, rfl⟩))
        exact bodyPost_ret (v := .agg #[.int .i64 3, .int .i64 0]) (by simp [results, Try.results10, go_sem]) rfl ⟨rfl, by go_grown⟩
    · have h1' : inB m 0 7 = false := by simpa using h1
      have e1 : cvC zs m v = 3 := by simp [cvC, h0, h1']
      have e2 : cvV zs m v = 0 := by simp [cvV, e1]
      rw [e1, e2]
      clear e1 e2 h0 hl h1
      go_enter Try.func10, Try.ntmps10
      go_wp2_with (first | (go_at_call 15; refine (hv _ (h.below (by go_grown))).mono ?_; rintro e w' ⟨rfl, rfl⟩) | (go_at_call 25; refine (isMask_any _ _).mono ?_; rintro e w' ⟨rfl, rfl⟩) | (go_at_call 26; refine (within_any _ _ _ _).mono ?_; rintro e w' ⟨rfl, rfl⟩))
      exact bodyPost_ret (v := .agg #[.int .i64 3, .int .i64 0]) (by simp [results, Try.results10, go_sem]) rfl ⟨rfl, by go_grown⟩
  · have e1 : cvC zs m v = vf zs 2 := by simp [cvC, h0]
    have e2 : cvV zs m v = 0 := by simp [cvV, e1, h0]
    rw [e1, e2]
    clear e1 e2
    have h0' : (vf zs 2 != 0) = true := by simpa using h0
    clear h0
    generalize vf zs 2 = c at *
    go_enter Try.func10, Try.ntmps10
    go_wp2_with (go_at_call 15; refine (hv _ (h.below (by go_grown))).mono ?_; rintro e w' ⟨rfl, rfl⟩)
    exact bodyPost_ret (v := .agg #[.int .i64 c, .int .i64 0]) (by simp [results, Try.results10, go_sem]) rfl ⟨rfl, by go_grown⟩

set_option maxHeartbeats 1000000 in
theorem specCount_any (a : Option Addr) (cap : Nat) (zs : List Int) (m v : Int) (w : World) (h : Row .i64 w a zs) (hm : zs.length ≤ 9223372036854775807) :
    Calls Try.prog 14 #[.slice a zs.length cap, .int .i64 m, .int .i64 v] w fun e w' => e = .returned (.agg #[.int .i64 (cvC zs m v), .int .i64 (cvV zs m v)]) ∧ Below w.heap.size w w' := by
  have hv := l5Votes_any a cap zs 2 (w.alloc (.cells #[.int .i64 0, .int .i64 0] 29)) (h.below (by go_grown)) hm
  have hS : w.heap.size < (w.alloc (.cells #[.int .i64 0, .int .i64 0] 29)).heap.size := by simp
  have hB : Below w.heap.size w (w.alloc (.cells #[.int .i64 0, .int .i64 0] 29)) := by go_grown
  have Bx := Box.new w (.int .i64 0) (.int .i64 0) 29
  have f0 : (w.alloc (.cells #[.int .i64 0, .int .i64 0] 29)).frozen? ⟨w.heap.size, 0, none⟩ = false := by simp
  have f1 : (w.alloc (.cells #[.int .i64 0, .int .i64 0] 29)).frozen? ⟨w.heap.size, 1, none⟩ = false := by simp
  go_enter Try.func14, Try.ntmps14
  go_wp2_with fail
  generalize w.alloc (.cells #[.int .i64 0, .int .i64 0] 29) = W at *
  refine hv.mono ?_
  rintro e w1 ⟨rfl, hb⟩
  clear hv
  replace Bx := Bx.below hb
  have g0 : w1.frozen? ⟨w.heap.size, 0, none⟩ = false := by rw [hb.frozen (p := ⟨w.heap.size, 0, none⟩) hS]; exact f0
  have g1 : w1.frozen? ⟨w.heap.size, 1, none⟩ = false := by rw [hb.frozen (p := ⟨w.heap.size, 1, none⟩) hS]; exact f1
  replace hB := hB.trans (hb.mono hB.size)
  replace h := h.below hB
  have hs1 : w.heap.size < w1.heap.size := Bx.lt
  clear hb f0 f1 hS
  by_cases h0 : vf zs 2 = 0
  · have hl := vf_len h0
    rw [h0, hl]
    by_cases h1 : inB m 0 7 = true
    · by_cases h2 : inB v 0 3 = true
      · have e1 : cvC zs m v = 0 := by simp [cvC, h0, h1, h2]
        have e2 : cvV zs m v = cnt m zs v := by simp [cvV, e1]
        have E : Hid (_ ∧ _) := And.intro e1 e2
        have hn := l5Count_any a cap zs m v w1 h hl h1
        clear e1 e2 h0 hl
        generalize cnt m zs v = c at *
        go_wp2_with (go_at_call 34; refine (l1In_any _ _ _ _).mono ?_; rintro e w' ⟨rfl, hw⟩; replace hw := hw.symm; subst hw)
        refine hn.mono ?_
        rintro e w2 ⟨rfl, hb⟩
        have p0 := (Bx.below hb).fst
        have p1 := (Bx.below hb).snd
        have q0 : w2.frozen? ⟨w.heap.size, 0, none⟩ = false := by rw [hb.frozen (p := ⟨w.heap.size, 0, none⟩) hs1]; exact g0
        have q1 : w2.frozen? ⟨w.heap.size, 1, none⟩ = false := by rw [hb.frozen (p := ⟨w.heap.size, 1, none⟩) hs1]; exact g1
        have hB2 := hB.trans (hb.mono hB.size)
        clear hn hb
        go_wp2
        exact bodyPost_ret (v := .agg #[.int .i64 0, .int .i64 c]) (by simp [results, Try.results14, go_sem, p0, p1]) rfl ⟨by rw [E.out.1, E.out.2], (hB2.setCell (p := ⟨w.heap.size, 0, none⟩) (Nat.le_refl _) _).setCell (p := ⟨w.heap.size, 1, none⟩) (Nat.le_refl _) _⟩
      · have h2' : inB v 0 3 = false := by simpa using h2
        have e1 : cvC zs m v = 3 := by simp [cvC, h0, h1, h2']
        have e2 : cvV zs m v = 0 := by simp [cvV, e1]
        have E : Hid (_ ∧ _) := And.intro e1 e2
        have p0 := Bx.fst
        have p1 := Bx.snd
        clear e1 e2 h0 hl h2
        go_wp2_with (go_at_call 34; refine (l1In_any _ _ _ _).mono ?_; rintro e w' ⟨rfl, hw⟩; replace hw := hw.symm; subst hw)
        exact bodyPost_ret (v := .agg #[.int .i64 3, .int .i64 0]) (by simp [results, Try.results14, go_sem, p0, p1]) rfl ⟨by rw [E.out.1, E.out.2], (hB.setCell (p := ⟨w.heap.size, 0, none⟩) (Nat.le_refl _) _).setCell (p := ⟨w.heap.size, 1, none⟩) (Nat.le_refl _) _⟩
    · have h1' : inB m 0 7 = false := by simpa using h1
      have e1 : cvC zs m v = 3 := by simp [cvC, h0, h1']
      have e2 : cvV zs m v = 0 := by simp [cvV, e1]
      have E : Hid (_ ∧ _) := And.intro e1 e2
      have p0 := Bx.fst
      have p1 := Bx.snd
      clear e1 e2 h0 hl h1
      go_wp2_with (go_at_call 34; refine (l1In_any _ _ _ _).mono ?_; rintro e w' ⟨rfl, hw⟩; replace hw := hw.symm; subst hw)
      exact bodyPost_ret (v := .agg #[.int .i64 3, .int .i64 0]) (by simp [results, Try.results14, go_sem, p0, p1]) rfl ⟨by rw [E.out.1, E.out.2], (hB.setCell (p := ⟨w.heap.size, 0, none⟩) (Nat.le_refl _) _).setCell (p := ⟨w.heap.size, 1, none⟩) (Nat.le_refl _) _⟩
  · have e1 : cvC zs m v = vf zs 2 := by simp [cvC, h0]
    have e2 : cvV zs m v = 0 := by simp [cvV, e1, h0]
    have E : Hid (_ ∧ _) := And.intro e1 e2
    clear e1 e2
    have h0' : (vf zs 2 != 0) = true := by simpa using h0
    have p0 := Bx.fst
    have p1 := Bx.snd
    clear h0
    generalize vf zs 2 = c at *
    go_wp2
    exact bodyPost_ret (v := .agg #[.int .i64 c, .int .i64 0]) (by simp [results, Try.results14, go_sem, p0, p1]) rfl ⟨by rw [E.out.1, E.out.2], (hB.setCell (p := ⟨w.heap.size, 0, none⟩) (Nat.le_refl _) _).setCell (p := ⟨w.heap.size, 1, none⟩) (Nat.le_refl _) _⟩

end Go.Proofs.Ytonkbpnchcgmmaa

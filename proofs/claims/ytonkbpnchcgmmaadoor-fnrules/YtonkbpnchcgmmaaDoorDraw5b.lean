/- The draws of chapter 5's functions, at whatever bytes. -/
import Derived.Test.YtonkbpnchcgmmaaDoorDraw5
namespace Go.Proofs.YtonkbpnchcgmmaaDoor
open Go.RowKit
set_option linter.unusedVariables false
set_option linter.unusedSimpArgs false

set_option maxRecDepth 100000 in
set_option maxHeartbeats 2000000 in
theorem drawProposalFor_any (a : Option Addr) (cap : Nat) (zs : List Int) (w : World) (h : Row .u8 w a zs) (hu : ∀ i, 0 ≤ zs.getD i 0 ∧ zs.getD i 0 ≤ 255) (hl : zs.length ≤ 1048576) :
    Calls Tryd.prog 9 #[.slice a zs.length cap] w fun e w' => ∃ (b : Option Addr) (k : Nat) (ys : List Int) (x0 : Int), e = .returned (.tuple #[.slice b ys.length k, .int .i64 x0]) ∧ ys.length ≤ 3 ∧ Row .i64 w' b ys ∧ Below w.heap.size w w' := by
  go_enter Tryd.func9, Tryd.ntmps9
  go_wp2_with fail
  refine (source_any w.heap.size a cap zs w (Nat.le_refl _) hl hu h).mono ?_
  rintro e w1 ⟨rfl, hS, hb⟩
  have hlt1 := hS.lt
  go_wp2_with fail
  refine (l5Reports_any w.heap.size w.heap.size 0 w1 hS (by omega)).mono ?_
  rintro e wl ⟨b, k, ys, rfl, hyl, hR, hnb, hSl, hg⟩
  replace hb := below_of_src hb hg (Nat.le_refl _)
  have hne : ∀ g off sp, b = some ⟨g, off, sp⟩ → g ≠ w.heap.size := fun g off sp e => by have := hnb g off sp e; omega
  clear hg hS hnb
  have hlt0 := hSl.lt
  replace hR := hR.below (w' := wl.alloc (.cells #[.int .i64 3, .int .i64 5, .int .i64 6, .int .i64 7, .int .i64 1, .int .i64 8] 2)) (by go_grown)
  replace hb := hb.alloc hb.size (.cells #[.int .i64 3, .int .i64 5, .int .i64 6, .int .i64 7, .int .i64 1, .int .i64 8] 2)
  go_wp2_with fail
  refine (pick_any w.heap.size w.heap.size 9 wl.heap.size _ [3, 5, 6, 7, 1, 8] _ (hSl.below (by go_grown)) (by omega) (World.ownsRow_lit wl _ 6 (Nat.le_refl _) (by decide) rfl) (by simp) (by simp) (by simp [Value.ownBlock]; omega)).mono ?_
  rintro e w5 ⟨x0, rfl, hmem, hS5, hg⟩
  replace hR := hR.src hg hne
  replace hb := below_of_src hb hg (Nat.le_refl _)
  clear hg hmem hSl hlt0
  go_wp2
  refine bodyPost_ret (v := .tuple #[.slice b ys.length k, .int .i64 (x0)]) (by simp [results, Tryd.results9, go_sem]) rfl ?_
  exact ⟨b, k, ys, (x0), rfl, hyl, hR, hb⟩

set_option maxRecDepth 100000 in
set_option maxHeartbeats 2000000 in
theorem drawChoiceFor_any (a : Option Addr) (cap : Nat) (zs : List Int) (w : World) (h : Row .u8 w a zs) (hu : ∀ i, 0 ≤ zs.getD i 0 ∧ zs.getD i 0 ≤ 255) (hl : zs.length ≤ 1048576) :
    Calls Tryd.prog 11 #[.slice a zs.length cap] w fun e w' => ∃ (b : Option Addr) (k : Nat) (ys : List Int) (x0 x1 : Int), e = .returned (.tuple #[.slice b ys.length k, .int .i64 x0, .int .i64 x1]) ∧ ys.length ≤ 3 ∧ Row .i64 w' b ys ∧ Below w.heap.size w w' := by
  go_enter Tryd.func11, Tryd.ntmps11
  go_wp2_with fail
  refine (source_any w.heap.size a cap zs w (Nat.le_refl _) hl hu h).mono ?_
  rintro e w1 ⟨rfl, hS, hb⟩
  have hlt1 := hS.lt
  go_wp2_with fail
  refine (l5Props_any w.heap.size w.heap.size 0 w1 hS (by omega)).mono ?_
  rintro e wl ⟨b, k, ys, rfl, hyl, hR, hnb, hSl, hg⟩
  replace hb := below_of_src hb hg (Nat.le_refl _)
  have hne : ∀ g off sp, b = some ⟨g, off, sp⟩ → g ≠ w.heap.size := fun g off sp e => by have := hnb g off sp e; omega
  clear hg hS hnb
  have hlt0 := hSl.lt
  replace hR := hR.below (w' := wl.alloc (.cells #[.int .i64 3, .int .i64 5, .int .i64 6, .int .i64 7, .int .i64 2, .int .i64 9] 2)) (by go_grown)
  replace hb := hb.alloc hb.size (.cells #[.int .i64 3, .int .i64 5, .int .i64 6, .int .i64 7, .int .i64 2, .int .i64 9] 2)
  go_wp2_with fail
  refine (pick_any w.heap.size w.heap.size 9 wl.heap.size _ [3, 5, 6, 7, 2, 9] _ (hSl.below (by go_grown)) (by omega) (World.ownsRow_lit wl _ 6 (Nat.le_refl _) (by decide) rfl) (by simp) (by simp) (by simp [Value.ownBlock]; omega)).mono ?_
  rintro e w5 ⟨x0, rfl, hmem, hS5, hg⟩
  replace hR := hR.src hg hne
  replace hb := below_of_src hb hg (Nat.le_refl _)
  clear hg hmem hSl hlt0
  have hlt1 := hS5.lt
  replace hR := hR.below (w' := w5.alloc (.cells #[.int .i64 0, .int .i64 1, .int .i64 1, .int .i64 2] 2)) (by go_grown)
  replace hb := hb.alloc hb.size (.cells #[.int .i64 0, .int .i64 1, .int .i64 1, .int .i64 2] 2)
  go_wp2_with fail
  refine (pick_any w.heap.size w.heap.size 10 w5.heap.size _ [0, 1, 1, 2] _ (hS5.below (by go_grown)) (by omega) (World.ownsRow_lit w5 _ 4 (Nat.le_refl _) (by decide) rfl) (by simp) (by simp) (by simp [Value.ownBlock]; omega)).mono ?_
  rintro e w6 ⟨x1, rfl, hmem, hS6, hg⟩
  replace hR := hR.src hg hne
  replace hb := below_of_src hb hg (Nat.le_refl _)
  clear hg hmem hS5 hlt1
  go_wp2
  refine bodyPost_ret (v := .tuple #[.slice b ys.length k, .int .i64 (x0), .int .i64 (x1)]) (by simp [results, Tryd.results11, go_sem]) rfl ?_
  exact ⟨b, k, ys, (x0), (x1), rfl, hyl, hR, hb⟩

set_option maxRecDepth 100000 in
set_option maxHeartbeats 2000000 in
theorem drawMayPropose_any (a : Option Addr) (cap : Nat) (zs : List Int) (w : World) (h : Row .u8 w a zs) (hu : ∀ i, 0 ≤ zs.getD i 0 ∧ zs.getD i 0 ≤ 255) (hl : zs.length ≤ 1048576) :
    Calls Tryd.prog 13 #[.slice a zs.length cap] w fun e w' => ∃ (b : Option Addr) (k : Nat) (ys : List Int) (x0 : Int), e = .returned (.tuple #[.slice b ys.length k, .int .i64 x0]) ∧ ys.length ≤ 3 ∧ Row .i64 w' b ys ∧ Below w.heap.size w w' := by
  go_enter Tryd.func13, Tryd.ntmps13
  go_wp2_with fail
  refine (source_any w.heap.size a cap zs w (Nat.le_refl _) hl hu h).mono ?_
  rintro e w1 ⟨rfl, hS, hb⟩
  have hlt1 := hS.lt
  go_wp2_with fail
  refine (l5Reports_any w.heap.size w.heap.size 0 w1 hS (by omega)).mono ?_
  rintro e wl ⟨b, k, ys, rfl, hyl, hR, hnb, hSl, hg⟩
  replace hb := below_of_src hb hg (Nat.le_refl _)
  have hne : ∀ g off sp, b = some ⟨g, off, sp⟩ → g ≠ w.heap.size := fun g off sp e => by have := hnb g off sp e; omega
  clear hg hS hnb
  go_wp2_with fail
  refine (next_any w.heap.size w.heap.size 9 4 wl hSl (by omega) (by omega)).mono ?_
  rintro e w5 ⟨x0, rfl, hr, hS5, hg⟩
  have hx0a := hr.1
  have hx0b := hr.2.1 (by omega)
  replace hR := hR.src hg hne
  replace hb := below_of_src hb hg (Nat.le_refl _)
  clear hg hr hSl
  go_wp2
  refine bodyPost_ret (v := .tuple #[.slice b ys.length k, .int .i64 (x0)]) (by simp [results, Tryd.results13, go_sem]) rfl ?_
  exact ⟨b, k, ys, (x0), rfl, hyl, hR, hb⟩

set_option maxRecDepth 100000 in
set_option maxHeartbeats 2000000 in
theorem drawMayReport_any (a : Option Addr) (cap : Nat) (zs : List Int) (w : World) (h : Row .u8 w a zs) (hu : ∀ i, 0 ≤ zs.getD i 0 ∧ zs.getD i 0 ≤ 255) (hl : zs.length ≤ 1048576) :
    Calls Tryd.prog 14 #[.slice a zs.length cap] w fun e w' => ∃ (b : Option Addr) (k : Nat) (ys : List Int) (x0 : Int), e = .returned (.tuple #[.slice b ys.length k, .int .i64 x0]) ∧ ys.length ≤ 3 ∧ Row .i64 w' b ys ∧ Below w.heap.size w w' := by
  go_enter Tryd.func14, Tryd.ntmps14
  go_wp2_with fail
  refine (source_any w.heap.size a cap zs w (Nat.le_refl _) hl hu h).mono ?_
  rintro e w1 ⟨rfl, hS, hb⟩
  have hlt1 := hS.lt
  go_wp2_with fail
  refine (l5Props_any w.heap.size w.heap.size 0 w1 hS (by omega)).mono ?_
  rintro e wl ⟨b, k, ys, rfl, hyl, hR, hnb, hSl, hg⟩
  replace hb := below_of_src hb hg (Nat.le_refl _)
  have hne : ∀ g off sp, b = some ⟨g, off, sp⟩ → g ≠ w.heap.size := fun g off sp e => by have := hnb g off sp e; omega
  clear hg hS hnb
  go_wp2_with fail
  refine (next_any w.heap.size w.heap.size 9 4 wl hSl (by omega) (by omega)).mono ?_
  rintro e w5 ⟨x0, rfl, hr, hS5, hg⟩
  have hx0a := hr.1
  have hx0b := hr.2.1 (by omega)
  replace hR := hR.src hg hne
  replace hb := below_of_src hb hg (Nat.le_refl _)
  clear hg hr hSl
  go_wp2
  refine bodyPost_ret (v := .tuple #[.slice b ys.length k, .int .i64 (x0 - 1)]) (by simp [results, Tryd.results14, go_sem]) rfl ?_
  exact ⟨b, k, ys, (x0 - 1), rfl, hyl, hR, hb⟩

end Go.Proofs.YtonkbpnchcgmmaaDoor

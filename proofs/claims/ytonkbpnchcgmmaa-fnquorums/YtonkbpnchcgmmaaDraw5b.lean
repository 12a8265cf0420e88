/- The draws of chapter 5's functions, at whatever bytes. -/
import Derived.Test.YtonkbpnchcgmmaaDraw5
namespace Go.Proofs.Ytonkbpnchcgmmaa
open Go.RowKit
set_option linter.unusedVariables false
set_option linter.unusedSimpArgs false

set_option maxHeartbeats 1000000 in
theorem drawIsQuorum_any (a : Option Addr) (cap : Nat) (zs : List Int) (w : World) (h : Row .u8 w a zs) (hu : ∀ i, 0 ≤ zs.getD i 0 ∧ zs.getD i 0 ≤ 255) (hl : zs.length ≤ 1048576) :
    Calls Try.prog 8 #[.slice a zs.length cap] w fun e w' => ∃ r : Int, e = .returned (.int .i64 r) ∧ Below w.heap.size w w' := by
  go_enter Try.func8, Try.ntmps8
  go_wp2_with fail
  refine (source_any w.heap.size a cap zs w (Nat.le_refl _) hl hu h).mono ?_
  rintro e w1 ⟨rfl, hS, hb⟩
  go_wp2_with fail
  refine (next_any w.heap.size w.heap.size 0 10 w1 hS (by omega) (by omega)).mono ?_
  rintro e w2 ⟨r, rfl, hr, hS2, hg⟩
  have hr1 := hr.1
  have hr2 := hr.2.1 (by omega)
  replace hb := below_of_src hb hg (Nat.le_refl _)
  clear hr hg
  go_wp2
  go_ret
  exact ⟨_, rfl, hb⟩

set_option maxRecDepth 100000 in
set_option maxHeartbeats 2000000 in
theorem drawCountVotes_any (a : Option Addr) (cap : Nat) (zs : List Int) (w : World) (h : Row .u8 w a zs) (hu : ∀ i, 0 ≤ zs.getD i 0 ∧ zs.getD i 0 ≤ 255) (hl : zs.length ≤ 1048576) :
    Calls Try.prog 9 #[.slice a zs.length cap] w fun e w' => ∃ (b : Option Addr) (k : Nat) (ys : List Int) (x0 x1 : Int), e = .returned (.tuple #[.slice b ys.length k, .int .i64 x0, .int .i64 x1]) ∧ ys.length ≤ 3 ∧ Row .i64 w' b ys ∧ Below w.heap.size w w' := by
  go_enter Try.func9, Try.ntmps9
  go_wp2_with fail
  refine (source_any w.heap.size a cap zs w (Nat.le_refl _) hl hu h).mono ?_
  rintro e w1 ⟨rfl, hS, hb⟩
  have hlt1 := hS.lt
  go_wp2_with fail
  refine (l5Props_any w.heap.size w.heap.size 0 w1 hS (by omega)).mono ?_
  rintro e wl ⟨b, k, ys, rfl, hyl, hR, hnb, hSl, hg⟩
  replace hb := below_of_src hb hg (Nat.le_refl _)
  have hne : ∀ g off sp, b = some ⟨g, off, sp⟩ → g ≠ w.heap.size := fun g off sp e => by have := hnb g off sp e; omega
  clear hg hS hnb
  go_wp2_with fail
  refine (next_any w.heap.size w.heap.size 9 10 wl hSl (by omega) (by omega)).mono ?_
  rintro e w5 ⟨x0, rfl, hr, hS5, hg⟩
  have hx0a := hr.1
  have hx0b := hr.2.1 (by omega)
  replace hR := hR.src hg hne
  replace hb := below_of_src hb hg (Nat.le_refl _)
  clear hg hr hSl
  go_wp2_with fail
  refine (next_any w.heap.size w.heap.size 10 6 w5 hS5 (by omega) (by omega)).mono ?_
  rintro e w6 ⟨x1, rfl, hr, hS6, hg⟩
  have hx1a := hr.1
  have hx1b := hr.2.1 (by omega)
  replace hR := hR.src hg hne
  replace hb := below_of_src hb hg (Nat.le_refl _)
  clear hg hr hS5
  go_wp2
  refine bodyPost_ret (v := .tuple #[.slice b ys.length k, .int .i64 (x0 - 1), .int .i64 (x1 - 1)]) (by simp [results, Try.results9, go_sem]) rfl ?_
  exact ⟨b, k, ys, (x0 - 1), (x1 - 1), rfl, hyl, hR, hb⟩

set_option maxRecDepth 100000 in
set_option maxHeartbeats 2000000 in
theorem drawVotesFault_any (a : Option Addr) (cap : Nat) (zs : List Int) (w : World) (h : Row .u8 w a zs) (hu : ∀ i, 0 ≤ zs.getD i 0 ∧ zs.getD i 0 ≤ 255) (hl : zs.length ≤ 1048576) :
    Calls Try.prog 11 #[.slice a zs.length cap] w fun e w' => ∃ (b : Option Addr) (k : Nat) (ys : List Int) (x0 : Int), e = .returned (.tuple #[.slice b ys.length k, .int .i64 x0]) ∧ ys.length ≤ 3 ∧ Row .i64 w' b ys ∧ Below w.heap.size w w' := by
  go_enter Try.func11, Try.ntmps11
  go_wp2_with fail
  refine (source_any w.heap.size a cap zs w (Nat.le_refl _) hl hu h).mono ?_
  rintro e w1 ⟨rfl, hS, hb⟩
  have hlt1 := hS.lt
  go_wp2_with fail
  refine (chance_any w.heap.size w.heap.size 0 2 w1 hS (by omega) (by omega)).mono ?_
  rintro e w2 ⟨t, rfl, hS2, hg⟩
  replace hb := below_of_src hb hg (Nat.le_refl _)
  replace hS := hS2
  have hlt1 := hS.lt
  clear hg hS2
  cases t
  · skip
    go_wp2_with fail
    refine (l5Props_any w.heap.size w.heap.size 1 w2 hS (by omega)).mono ?_
    rintro e wl ⟨b, k, ys, rfl, hyl, hR, hnb, hSl, hg⟩
    replace hb := below_of_src hb hg (Nat.le_refl _)
    have hne : ∀ g off sp, b = some ⟨g, off, sp⟩ → g ≠ w.heap.size := fun g off sp e => by have := hnb g off sp e; omega
    clear hg hS hnb
    have hlt0 := hSl.lt
    replace hR := hR.below (w' := wl.alloc (.cells #[.int .i64 1, .int .i64 2, .int .i64 3] 2)) (by go_grown)
    replace hb := hb.alloc hb.size (.cells #[.int .i64 1, .int .i64 2, .int .i64 3] 2)
    go_wp2_with fail
    refine (pick_any w.heap.size w.heap.size 10 wl.heap.size _ [1, 2, 3] _ (hSl.below (by go_grown)) (by omega) (World.ownsRow_lit wl _ 3 (Nat.le_refl _) (by decide) rfl) (by simp) (by simp) (by simp [Value.ownBlock]; omega)).mono ?_
    rintro e w5 ⟨x0, rfl, hmem, hS5, hg⟩
    replace hR := hR.src hg hne
    replace hb := below_of_src hb hg (Nat.le_refl _)
    clear hg hmem hSl hlt0
    go_wp2
    refine bodyPost_ret (v := .tuple #[.slice b ys.length k, .int .i64 (x0)]) (by simp [results, Try.results11, go_sem]) rfl ?_
    exact ⟨b, k, ys, (x0), rfl, hyl, hR, hb⟩
  · skip
    go_wp2_with fail
    refine (l5Reports_any w.heap.size w.heap.size 1 w2 hS (by omega)).mono ?_
    rintro e wl ⟨b, k, ys, rfl, hyl, hR, hnb, hSl, hg⟩
    replace hb := below_of_src hb hg (Nat.le_refl _)
    have hne : ∀ g off sp, b = some ⟨g, off, sp⟩ → g ≠ w.heap.size := fun g off sp e => by have := hnb g off sp e; omega
    clear hg hS hnb
    have hlt0 := hSl.lt
    replace hR := hR.below (w' := wl.alloc (.cells #[.int .i64 1, .int .i64 2, .int .i64 0] 2)) (by go_grown)
    replace hb := hb.alloc hb.size (.cells #[.int .i64 1, .int .i64 2, .int .i64 0] 2)
    go_wp2_with fail
    refine (pick_any w.heap.size w.heap.size 10 wl.heap.size _ [1, 2, 0] _ (hSl.below (by go_grown)) (by omega) (World.ownsRow_lit wl _ 3 (Nat.le_refl _) (by decide) rfl) (by simp) (by simp) (by simp [Value.ownBlock]; omega)).mono ?_
    rintro e w5 ⟨x0, rfl, hmem, hS5, hg⟩
    replace hR := hR.src hg hne
    replace hb := below_of_src hb hg (Nat.le_refl _)
    clear hg hmem hSl hlt0
    go_wp2
    refine bodyPost_ret (v := .tuple #[.slice b ys.length k, .int .i64 (x0)]) (by simp [results, Try.results11, go_sem]) rfl ?_
    exact ⟨b, k, ys, (x0), rfl, hyl, hR, hb⟩

end Go.Proofs.Ytonkbpnchcgmmaa

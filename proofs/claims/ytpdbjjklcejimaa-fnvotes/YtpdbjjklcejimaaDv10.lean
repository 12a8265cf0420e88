/- What the draws of chapter 10 tell at whatever bytes: some vote, some bytes; nothing that was there is written into, the source's own memory aside. No condition. -/
import Derived.Test.YtpdbjjklcejimaaVp10
import Derived.Test.YtpdbjjklcejimaaDraw2
namespace Go.Proofs.Ytpdbjjklcejimaa
open Go.RowKit
open Go.BigFrame
set_option linter.unusedVariables false
set_option linter.unusedSimpArgs false

theorem inW_mk {n lo hi : Int} (h : lo ≤ n ∧ n ≤ hi) : inW n lo hi = true := by simp [inW, h.1, h.2]

theorem voteF_mk {k r n v : Int} (h1 : 1 ≤ k ∧ k ≤ 3) (h2 : k = 3 → r = 0) (h3 : 0 ≤ r ∧ r ≤ 3) (h4 : 0 ≤ n ∧ n ≤ 2) (h5 : 0 ≤ v ∧ v ≤ 1) : voteF ⟨k, r, n, v⟩ = 0 := by
  have hv : v ≤ vtM k := by rcases vtM_le k with e | e <;> omega
  unfold voteF
  dsimp only
  rw [inW_mk h1, inW_mk h3, inW_mk h4, inW_mk ⟨h5.1, hv⟩]
  by_cases hk : k = 3
  · have := h2 hk
    subst this
    simp
  · simp [hk]

set_option maxRecDepth 100000 in
set_option maxHeartbeats 400000 in
theorem l10Draw_any (B b T : Nat) (w : World) (hS : Src B w b T) (hT : T ≤ 1000000) :
    Calls Try.prog 32 #[.pointer (some ⟨b, 0, none⟩)] w fun e w' => ∃ k r n v : Int, e = .returned (.agg #[.int .i64 k, .int .i64 r, .int .i64 n, .int .i64 v]) ∧ voteF ⟨k, r, n, v⟩ = 0 ∧ Src B w' b (T + 4) ∧ w.grownBy w' (some b) := by
  have hlt := hS.lt
  have B0 := Blk.new w 26 #[.int .i64 0, .int .i64 0, .int .i64 0, .int .i64 0]
  have hg : w.grownBy (w.alloc (.cells #[.int .i64 0, .int .i64 0, .int .i64 0, .int .i64 0] 26)) (some b) := World.grownBy_alloc w _ _
  replace hS : Src B (w.alloc (.cells #[.int .i64 0, .int .i64 0, .int .i64 0, .int .i64 0] 26)) b T := hS.below (by go_grown)
  go_enter Try.func32, Try.ntmps32
  go_wp2_with fail
  have hs1 : w.heap.size + 1 = (w.alloc (.cells #[.int .i64 0, .int .i64 0, .int .i64 0, .int .i64 0] 26)).heap.size := by simp
  generalize w.alloc (.cells #[.int .i64 0, .int .i64 0, .int .i64 0, .int .i64 0] 26) = W1 at B0 hg hS hs1
  replace hs1 : w.heap.size < W1.heap.size := by omega
  refine (next_any B b (T) 3 W1 hS (by omega) (by omega)).mono ?_
  rintro e w2 ⟨x, rfl, hr, hSn, hgn⟩
  have x1 := hr.1
  have x2 := hr.2.1 (by omega)
  replace B0 := B0.grown hgn (by simp; omega)
  replace hg := hg.trans hgn
  replace hS := hSn
  have hsz0 := hgn.size
  clear hgn hSn hr
  go_wp2_with fail
  refine (next_any B b (T + 1) 3 w2 hS (by omega) (by omega)).mono ?_
  rintro e w3 ⟨y, rfl, hr, hSn, hgn⟩
  have y1 := hr.1
  have y2 := hr.2.1 (by omega)
  replace B0 := B0.grown hgn (by simp; omega)
  replace hg := hg.trans hgn
  replace hS := hSn
  have hsz1 := hgn.size
  clear hgn hSn hr
  go_wp2_with fail
  refine (next_any B b (T + 1 + 1) 2 w3 hS (by omega) (by omega)).mono ?_
  rintro e w4 ⟨z, rfl, hr, hSn, hgn⟩
  have z1 := hr.1
  have z2 := hr.2.1 (by omega)
  replace B0 := B0.grown hgn (by simp; omega)
  replace hg := hg.trans hgn
  replace hS := hSn
  have hsz2 := hgn.size
  clear hgn hSn hr
  
  have hbA : Below w4.heap.size w4 (w4.alloc (.cells #[.int .i64 (1 + x), .int .i64 0, .int .i64 y, .int .i64 z] 26)) := by go_grown
  have B1 := Blk.new w4 26 #[.int .i64 (1 + x), .int .i64 0, .int .i64 y, .int .i64 z]
  have hlt4 := B0.lt
  have B0w := B0
  have hSw := hS
  have hgw := hg
  replace B0 := B0.below hbA
  replace hS := hS.below hbA
  have hsw := hg.size
  replace hg := grown_low hg (hbA.mono hsw)
  have q0 := B1.cell 0 _ rfl
  clear hbA
  by_cases hk : 1 + x = 3
  · have hk' : (1 + x != 3) = false := by simp [hk]
    have hF : voteF ⟨1 + x, 0, y, z⟩ = 0 := voteF_mk (by omega) (by omega) (by omega) (by omega) (by omega)
    have p0 := B0w.cell 0 _ rfl
    have p1 := B0w.cell 1 _ rfl
    have p2 := B0w.cell 2 _ rfl
    have p3 := B0w.cell 3 _ rfl
    have f0 := B0w.frozen 0
    have f1 := B0w.frozen 1
    have f2 := B0w.frozen 2
    have f3 := B0w.frozen 3
    clear B0 B1 B0w hS hg hk q0
    have HF : Hid (voteF ⟨1 + x, 0, y, z⟩ = 0) := hF
    clear hF
    go_wp2
    refine bodyPost_ret (v := .agg #[.int .i64 (1 + x), .int .i64 0, .int .i64 y, .int .i64 z]) (by simp [results, Try.results32, go_sem, p0, p1, p2, p3, hlt4]) rfl ?_
    have hbE : ∀ O, Below w.heap.size w4 (((((w4.setCell ⟨w.heap.size, 0, none⟩ (.int .i64 (1 + x))).setCell ⟨w.heap.size, 1, none⟩ (.int .i64 0)).setCell ⟨w.heap.size, 2, none⟩ (.int .i64 y)).setCell ⟨w.heap.size, 3, none⟩ (.int .i64 z)).alloc O) := fun O =>
      (((((Below.refl _ _).setCell (p := ⟨w.heap.size, 0, none⟩) (Nat.le_refl _) _).setCell (p := ⟨w.heap.size, 1, none⟩) (Nat.le_refl _) _).setCell (p := ⟨w.heap.size, 2, none⟩) (Nat.le_refl _) _).setCell (p := ⟨w.heap.size, 3, none⟩) (Nat.le_refl _) _).alloc (by simp [World.setCell]; omega) O
    exact ⟨_, _, _, _, rfl, HF.out, (hSw.low (hbE _) hlt.2).mono (by omega), grown_low hgw (hbE _)⟩
  · have hk' : (1 + x != 3) = true := by simp [bne_iff_ne, hk]
    clear B0w hSw hgw
    go_wp2_with fail
    clear q0
    generalize hW5 : w4.alloc (.cells #[.int .i64 (1 + x), .int .i64 0, .int .i64 y, .int .i64 z] 26) = W5 at *
    clear hW5
    refine (next_any B b (T + 1 + 1 + 1) 2 W5 hS (by omega) (by omega)).mono ?_
    rintro e w6 ⟨r, rfl, hr, hSn, hgn⟩
    have r1 := hr.1
    have r2 := hr.2.1 (by omega)
    replace B0 := B0.grown hgn (by simp; omega)
    replace B1 := B1.grown hgn (by simp; omega)
    replace hg := hg.trans hgn
    replace hS := hSn
    have hsz_w6 := hgn.size
    clear hgn hSn hr
    have HF : Hid (voteF ⟨1 + x, r, y, z⟩ = 0) := voteF_mk (by omega) (by omega) (by omega) (by omega) (by omega)
    have hsb : w4.heap.size < w6.heap.size := B1.lt
    have q0 := B1.cell 0 _ rfl
    have q1 := B1.cell 1 _ rfl
    have q2 := B1.cell 2 _ rfl
    have q3 := B1.cell 3 _ rfl
    have g1 := B1.frozen 1
    have p0 := B0.cell 0 _ rfl
    have p1 := B0.cell 1 _ rfl
    have p2 := B0.cell 2 _ rfl
    have p3 := B0.cell 3 _ rfl
    have f0 := B0.frozen 0
    have f1 := B0.frozen 1
    have f2 := B0.frozen 2
    have f3 := B0.frozen 3
    have hne0 : w.heap.size ≠ w4.heap.size := by omega
    clear B0 B1 hk
    go_wp2
    refine bodyPost_ret (v := .agg #[.int .i64 (1 + x), .int .i64 r, .int .i64 y, .int .i64 z]) (by simp [results, Try.results32, go_sem, p0, p1, p2, p3]) rfl ?_
    have hbE : Below w.heap.size w6 (((((w6.setCell ⟨w4.heap.size, 1, none⟩ (.int .i64 r)).setCell ⟨w.heap.size, 0, none⟩ (.int .i64 (1 + x))).setCell ⟨w.heap.size, 1, none⟩ (.int .i64 r)).setCell ⟨w.heap.size, 2, none⟩ (.int .i64 y)).setCell ⟨w.heap.size, 3, none⟩ (.int .i64 z)) := by
      exact (((((Below.refl _ _).setCell (p := ⟨w4.heap.size, 1, none⟩) (show w.heap.size ≤ w4.heap.size by omega) _).setCell (p := ⟨w.heap.size, 0, none⟩) (Nat.le_refl _) _).setCell (p := ⟨w.heap.size, 1, none⟩) (Nat.le_refl _) _).setCell (p := ⟨w.heap.size, 2, none⟩) (Nat.le_refl _) _).setCell (p := ⟨w.heap.size, 3, none⟩) (Nat.le_refl _) _
    exact ⟨_, _, _, _, rfl, HF.out, (hS.low hbE hlt.2).mono (by omega), grown_low hg hbE⟩

set_option maxRecDepth 100000 in
set_option maxHeartbeats 400000 in
theorem l10Bent_any (B b T : Nat) (w : World) (hS : Src B w b T) (hT : T ≤ 1000000) :
    Calls Try.prog 38 #[.pointer (some ⟨b, 0, none⟩)] w fun e w' => ∃ k r n v : Int, e = .returned (.agg #[.int .i64 k, .int .i64 r, .int .i64 n, .int .i64 v]) ∧ Src B w' b (T + 6) ∧ w.grownBy w' (some b) := by
  have hlt := hS.lt
  have B0 := Blk.new w 26 #[.int .i64 0, .int .i64 0, .int .i64 0, .int .i64 0]
  have hg : w.grownBy (w.alloc (.cells #[.int .i64 0, .int .i64 0, .int .i64 0, .int .i64 0] 26)) (some b) := World.grownBy_alloc w _ _
  replace hS : Src B (w.alloc (.cells #[.int .i64 0, .int .i64 0, .int .i64 0, .int .i64 0] 26)) b T := hS.below (by go_grown)
  go_enter Try.func38, Try.ntmps38
  go_wp2_with fail
  have hs1 : w.heap.size + 1 = (w.alloc (.cells #[.int .i64 0, .int .i64 0, .int .i64 0, .int .i64 0] 26)).heap.size := by simp
  generalize w.alloc (.cells #[.int .i64 0, .int .i64 0, .int .i64 0, .int .i64 0] 26) = W1 at B0 hg hS hs1
  replace hs1 : w.heap.size < W1.heap.size := by omega
  refine (l10Draw_any B b T W1 hS (by omega)).mono ?_
  rintro e w2 ⟨k, r, n, v, rfl, _, hSn, hgn⟩
  replace B0 := B0.grown hgn (by simp; omega)
  replace hg := hg.trans hgn
  replace hS := hSn
  have hsz0 := hgn.size
  clear hgn hSn
  have hbA : Below w2.heap.size w2 (w2.alloc (.cells #[.int .i64 k, .int .i64 r, .int .i64 n, .int .i64 v] 26)) := by go_grown
  have B1 := Blk.new w2 26 #[.int .i64 k, .int .i64 r, .int .i64 n, .int .i64 v]
  replace B0 := B0.below hbA
  replace hS := hS.below hbA
  have hsw := hg.size
  replace hg := grown_low hg (hbA.mono hsw)
  clear hbA
  go_wp2_with fail
  have hs3 : w2.heap.size + 1 = (w2.alloc (.cells #[.int .i64 k, .int .i64 r, .int .i64 n, .int .i64 v] 26)).heap.size := by simp
  generalize w2.alloc (.cells #[.int .i64 k, .int .i64 r, .int .i64 n, .int .i64 v] 26) = W3 at *
  replace hs3 : w2.heap.size < W3.heap.size := by omega
  refine (next_any B b (T + 4) 8 W3 hS (by omega) (by omega)).mono ?_
  rintro e w4 ⟨c, rfl, hr, hSn, hgn⟩
  replace B0 := B0.grown hgn (by simp; omega)
  replace B1 := B1.grown hgn (by simp; omega)
  replace hg := hg.trans hgn
  replace hS := hSn
  have hsz4 := hgn.size
  clear hgn hSn hr
  by_cases h0 : c = 0
  · subst h0
    go_wp2_with fail
    have hltp := hS.lt
    have hbA : Below w4.heap.size w4 (w4.alloc (.cells #[.int .i64 0, .int .i64 3, .int .i64 4] 2)) := by go_grown
    replace B0 := B0.below hbA
    replace B1 := B1.below hbA
    replace hg := hg.trans (World.grownBy_alloc w4 (.cells #[.int .i64 0, .int .i64 3, .int .i64 4] 2) (some b))
    refine (pick_any B b (T + 4 + 1) w4.heap.size _ [0, 3, 4] _ (hS.below (by go_grown)) (by omega) (World.ownsRow_lit w4 _ 3 (Nat.le_refl _) (by decide) rfl) (by simp) (by simp) (by simp [Value.ownBlock]; omega)).mono ?_
    rintro e w6 ⟨z, rfl, hmem, hSn, hgn⟩
    replace B0 := B0.grown hgn (by simp; omega)
    replace B1 := B1.grown hgn (by simp; omega)
    replace hg := hg.trans hgn
    replace hS := hSn
    clear hgn hSn hmem hbA
    have hsb : w2.heap.size < w6.heap.size := B1.lt
    have q0 := B1.cell 0 _ rfl
    have q1 := B1.cell 1 _ rfl
    have q2 := B1.cell 2 _ rfl
    have q3 := B1.cell 3 _ rfl
    have g0 := B1.frozen 0
    have g1 := B1.frozen 1
    have g2 := B1.frozen 2
    have g3 := B1.frozen 3
    have p0 := B0.cell 0 _ rfl
    have p1 := B0.cell 1 _ rfl
    have p2 := B0.cell 2 _ rfl
    have p3 := B0.cell 3 _ rfl
    have f0 := B0.frozen 0
    have f1 := B0.frozen 1
    have f2 := B0.frozen 2
    have f3 := B0.frozen 3
    have hne0 : w.heap.size ≠ w2.heap.size := by omega
    clear B0 B1
    go_wp2
    refine bodyPost_ret (v := .agg #[.int .i64 z, .int .i64 r, .int .i64 n, .int .i64 v]) (by simp [results, Try.results38, go_sem, p0, p1, p2, p3]) rfl ?_
    refine ⟨z, r, n, v, rfl, (hS.low (N := w.heap.size) ?_ hlt.2).mono (by omega), grown_low hg ?_⟩
    · repeat' (refine Below.setCell ?_ (by dsimp only; omega) _)
      exact Below.refl _ _
    · repeat' (refine Below.setCell ?_ (by dsimp only; omega) _)
      exact Below.refl _ _
  · have e0 : (c == 0) = false := by simpa using h0
    clear h0
    by_cases h1 : c = 1
    · subst h1
      clear e0
      go_wp2_with fail
      have hltp := hS.lt
      have hbA : Below w4.heap.size w4 (w4.alloc (.cells #[.int .i64 3, .int .i64 4, .int .i64 (-1)] 2)) := by go_grown
      replace B0 := B0.below hbA
      replace B1 := B1.below hbA
      replace hg := hg.trans (World.grownBy_alloc w4 (.cells #[.int .i64 3, .int .i64 4, .int .i64 (-1)] 2) (some b))
      refine (pick_any B b (T + 4 + 1) w4.heap.size _ [3, 4, -1] _ (hS.below (by go_grown)) (by omega) (World.ownsRow_lit w4 _ 3 (Nat.le_refl _) (by decide) rfl) (by simp) (by simp) (by simp [Value.ownBlock]; omega)).mono ?_
      rintro e w6 ⟨z, rfl, hmem, hSn, hgn⟩
      replace B0 := B0.grown hgn (by simp; omega)
      replace B1 := B1.grown hgn (by simp; omega)
      replace hg := hg.trans hgn
      replace hS := hSn
      clear hgn hSn hmem hbA
      have hsb : w2.heap.size < w6.heap.size := B1.lt
      have q0 := B1.cell 0 _ rfl
      have q1 := B1.cell 1 _ rfl
      have q2 := B1.cell 2 _ rfl
      have q3 := B1.cell 3 _ rfl
      have g0 := B1.frozen 0
      have g1 := B1.frozen 1
      have g2 := B1.frozen 2
      have g3 := B1.frozen 3
      have p0 := B0.cell 0 _ rfl
      have p1 := B0.cell 1 _ rfl
      have p2 := B0.cell 2 _ rfl
      have p3 := B0.cell 3 _ rfl
      have f0 := B0.frozen 0
      have f1 := B0.frozen 1
      have f2 := B0.frozen 2
      have f3 := B0.frozen 3
      have hne0 : w.heap.size ≠ w2.heap.size := by omega
      clear B0 B1
      go_wp2
      refine bodyPost_ret (v := .agg #[.int .i64 k, .int .i64 z, .int .i64 n, .int .i64 v]) (by simp [results, Try.results38, go_sem, p0, p1, p2, p3]) rfl ?_
      refine ⟨k, z, n, v, rfl, (hS.low (N := w.heap.size) ?_ hlt.2).mono (by omega), grown_low hg ?_⟩
      · repeat' (refine Below.setCell ?_ (by dsimp only; omega) _)
        exact Below.refl _ _
      · repeat' (refine Below.setCell ?_ (by dsimp only; omega) _)
        exact Below.refl _ _
    · have e1 : (c == 1) = false := by simpa using h1
      clear h1
      by_cases h2 : c = 2
      · subst h2
        clear e0
        clear e1
        go_wp2_with fail
        have hltp := hS.lt
        have hbA : Below w4.heap.size w4 (w4.alloc (.cells #[.int .i64 2, .int .i64 3, .int .i64 (-1)] 2)) := by go_grown
        replace B0 := B0.below hbA
        replace B1 := B1.below hbA
        replace hg := hg.trans (World.grownBy_alloc w4 (.cells #[.int .i64 2, .int .i64 3, .int .i64 (-1)] 2) (some b))
        refine (pick_any B b (T + 4 + 1) w4.heap.size _ [2, 3, -1] _ (hS.below (by go_grown)) (by omega) (World.ownsRow_lit w4 _ 3 (Nat.le_refl _) (by decide) rfl) (by simp) (by simp) (by simp [Value.ownBlock]; omega)).mono ?_
        rintro e w6 ⟨z, rfl, hmem, hSn, hgn⟩
        replace B0 := B0.grown hgn (by simp; omega)
        replace B1 := B1.grown hgn (by simp; omega)
        replace hg := hg.trans hgn
        replace hS := hSn
        clear hgn hSn hmem hbA
        have hsb : w2.heap.size < w6.heap.size := B1.lt
        have q0 := B1.cell 0 _ rfl
        have q1 := B1.cell 1 _ rfl
        have q2 := B1.cell 2 _ rfl
        have q3 := B1.cell 3 _ rfl
        have g0 := B1.frozen 0
        have g1 := B1.frozen 1
        have g2 := B1.frozen 2
        have g3 := B1.frozen 3
        have p0 := B0.cell 0 _ rfl
        have p1 := B0.cell 1 _ rfl
        have p2 := B0.cell 2 _ rfl
        have p3 := B0.cell 3 _ rfl
        have f0 := B0.frozen 0
        have f1 := B0.frozen 1
        have f2 := B0.frozen 2
        have f3 := B0.frozen 3
        have hne0 : w.heap.size ≠ w2.heap.size := by omega
        clear B0 B1
        go_wp2
        refine bodyPost_ret (v := .agg #[.int .i64 k, .int .i64 r, .int .i64 n, .int .i64 z]) (by simp [results, Try.results38, go_sem, p0, p1, p2, p3]) rfl ?_
        refine ⟨k, r, n, z, rfl, (hS.low (N := w.heap.size) ?_ hlt.2).mono (by omega), grown_low hg ?_⟩
        · repeat' (refine Below.setCell ?_ (by dsimp only; omega) _)
          exact Below.refl _ _
        · repeat' (refine Below.setCell ?_ (by dsimp only; omega) _)
          exact Below.refl _ _
      · have e2 : (c == 2) = false := by simpa using h2
        clear h2
        have hsb : w2.heap.size < w4.heap.size := B1.lt
        have q0 := B1.cell 0 _ rfl
        have q1 := B1.cell 1 _ rfl
        have q2 := B1.cell 2 _ rfl
        have q3 := B1.cell 3 _ rfl
        have g0 := B1.frozen 0
        have g1 := B1.frozen 1
        have g2 := B1.frozen 2
        have g3 := B1.frozen 3
        have p0 := B0.cell 0 _ rfl
        have p1 := B0.cell 1 _ rfl
        have p2 := B0.cell 2 _ rfl
        have p3 := B0.cell 3 _ rfl
        have f0 := B0.frozen 0
        have f1 := B0.frozen 1
        have f2 := B0.frozen 2
        have f3 := B0.frozen 3
        have hne0 : w.heap.size ≠ w2.heap.size := by omega
        clear B0 B1
        go_wp2
        refine bodyPost_ret (v := .agg #[.int .i64 k, .int .i64 r, .int .i64 n, .int .i64 v]) (by simp [results, Try.results38, go_sem, p0, p1, p2, p3]) rfl ?_
        refine ⟨k, r, n, v, rfl, (hS.low (N := w.heap.size) ?_ hlt.2).mono (by omega), grown_low hg ?_⟩
        · repeat' (refine Below.setCell ?_ (by dsimp only; omega) _)
          exact Below.refl _ _
        · repeat' (refine Below.setCell ?_ (by dsimp only; omega) _)
          exact Below.refl _ _

set_option maxHeartbeats 400000 in
theorem drawPackVote_any (a : Option Addr) (cap : Nat) (bs : List Int) (w : World) (h : Row .u8 w a bs) (hu : ∀ i, 0 ≤ bs.getD i 0 ∧ bs.getD i 0 ≤ 255) (hl : bs.length ≤ 1048576) :
    Calls Try.prog 11 #[.slice a bs.length cap] w fun e w' => ∃ k r n v : Int, e = .returned (.agg #[.int .i64 k, .int .i64 r, .int .i64 n, .int .i64 v]) ∧ Below w.heap.size w w' := by
  have B0 := Blk.new w 26 #[.int .i64 0, .int .i64 0, .int .i64 0, .int .i64 0]
  have hb : Below w.heap.size w (w.alloc (.cells #[.int .i64 0, .int .i64 0, .int .i64 0, .int .i64 0] 26)) := by go_grown
  have h0 := h.below hb
  go_enter Try.func11, Try.ntmps11
  go_wp2_with fail
  have hs1 : w.heap.size + 1 = (w.alloc (.cells #[.int .i64 0, .int .i64 0, .int .i64 0, .int .i64 0] 26)).heap.size := by simp
  generalize w.alloc (.cells #[.int .i64 0, .int .i64 0, .int .i64 0, .int .i64 0] 26) = W1 at *
  refine (source_any W1.heap.size a cap bs W1 (Nat.le_refl _) hl hu h0).mono ?_
  rintro e w2 ⟨rfl, hS, hb2⟩
  replace B0 := B0.below hb2
  replace hb := below_from hb hb2
  have hs2 := hS.lt
  clear hb2
  go_wp2_with fail
  refine (l10Bent_any W1.heap.size W1.heap.size 0 w2 hS (by omega)).mono ?_
  rintro e w3 ⟨k, r, n, v, rfl, hS3, hg3⟩
  replace B0 := B0.grown hg3 (by simp; omega)
  replace hb : Below w.heap.size w w3 := hb.grown hg3 hb.size (fun j hj => by simp at hj; omega)
  have p0 := B0.cell 0 _ rfl
  have p1 := B0.cell 1 _ rfl
  have p2 := B0.cell 2 _ rfl
  have p3 := B0.cell 3 _ rfl
  have f0 := B0.frozen 0
  have f1 := B0.frozen 1
  have f2 := B0.frozen 2
  have f3 := B0.frozen 3
  clear B0 hg3 hS3 hS
  go_wp2
  refine bodyPost_ret (v := .agg #[.int .i64 k, .int .i64 r, .int .i64 n, .int .i64 v]) (by simp [results, Try.results11, go_sem, p0, p1, p2, p3]) rfl ⟨k, r, n, v, rfl, ?_⟩
  repeat' (refine Below.setCell ?_ (by dsimp only; omega) _)
  exact hb

end Go.Proofs.Ytpdbjjklcejimaa

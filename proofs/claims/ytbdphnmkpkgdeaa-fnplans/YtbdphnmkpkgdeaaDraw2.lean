/- What the draws of chapter 2 tell at whatever bytes: some act, some transaction; nothing that was there is written into, the source's own memory aside. -/
import Derived.Test.YtbdphnmkpkgdeaaDraw1
import Derived.Test.YtbdphnmkpkgdeaaBlk
import Derived.Test.YtbdphnmkpkgdeaaD2t
import Derived.Test.YtbdphnmkpkgdeaaTextX
import Derived.Lib.SmallJoins
namespace Go.Proofs.Ytbdphnmkpkgdeaa
open Go.RowKit
open Go.BigFrame
set_option linter.unusedVariables false
set_option linter.unusedSimpArgs false

theorem grown_low {w wr w' : World} {b : Nat} (hg : w.grownBy wr (some b)) (hb : Below w.heap.size wr w') : w.grownBy w' (some b) :=
  ⟨hb.os.trans hg.os, hb.tape.trans hg.tape, hb.output.trans hg.output, by have := hg.size; have := hb.size; omega, fun k hk hne => (hb.block k hk).trans (hg.block k hk hne)⟩

theorem Src.low {B b T N : Nat} {w w' : World} (h : Src B w b T) (hb : Below N w w') (hN : b < N) : Src B w' b T :=
  h.kept hb.size (hb.block b hN) (fun k hk => hb.block k (by have := h.lt; omega))

theorem actCells_snoc' (xs : List ActD) (z : ActD) : actCells (xs ++ [z]) = actCells xs ++ [.int .i64 z.kind, .int .i64 z.key, .int .i64 z.val] := by simp [actCells, ActD.cells]

set_option maxRecDepth 100000 in
set_option maxHeartbeats 400000 in
theorem l2DrawAct_any (B b T : Nat) (w : World) (hS : Src B w b T) (hT : T ≤ 1000000) :
    Calls Try.prog 69 #[.pointer (some ⟨b, 0, none⟩)] w fun e w' => ∃ k y z : Int, e = .returned (.agg #[.int .i64 k, .int .i64 y, .int .i64 z]) ∧ Src B w' b (T + 3) ∧ w.grownBy w' (some b) := by
  have hlt := hS.lt
  have B0 := Blk.new w 90 #[.int .i64 0, .int .i64 0, .int .i64 0]
  have hg : w.grownBy (w.alloc (.cells #[.int .i64 0, .int .i64 0, .int .i64 0] 90)) (some b) := World.grownBy_alloc w _ _
  replace hS : Src B (w.alloc (.cells #[.int .i64 0, .int .i64 0, .int .i64 0] 90)) b T := hS.below (by go_grown)
  go_enter Try.func69, Try.ntmps69
  go_wp2_with fail
  have hs1 : w.heap.size + 1 = (w.alloc (.cells #[.int .i64 0, .int .i64 0, .int .i64 0] 90)).heap.size := by simp
  generalize w.alloc (.cells #[.int .i64 0, .int .i64 0, .int .i64 0] 90) = W1 at B0 hg hS hs1
  try simp only [hs1]
  replace hs1 : w.heap.size < W1.heap.size := by omega
  have hltp := hS.lt
  have hbA : Below W1.heap.size W1 (W1.alloc (.cells #[.int .i64 1, .int .i64 1, .int .i64 2, .int .i64 2, .int .i64 3, .int .i64 4] 2)) := by go_grown
  replace B0 := B0.below hbA
  replace hg := hg.trans (World.grownBy_alloc W1 (.cells #[.int .i64 1, .int .i64 1, .int .i64 2, .int .i64 2, .int .i64 3, .int .i64 4] 2) (some b))
  refine (pick_any B b T W1.heap.size _ [1, 1, 2, 2, 3, 4] _ (hS.below (by go_grown)) (by omega) (World.ownsRow_lit W1 _ 6 (Nat.le_refl _) (by decide) rfl) (by simp) (by simp) (by simp [Value.ownBlock]; omega)).mono ?_
  rintro e w3 ⟨k, rfl, hmem, hSn, hgn⟩
  replace B0 := B0.grown hgn (by simp; omega)
  replace hg := hg.trans hgn
  replace hS := hSn
  have hsz_w3 := hgn.size
  clear hgn hSn
  clear hmem
  go_wp2_with fail
  refine (next_any B b (T + 1) 4 w3 hS (by omega) (by omega)).mono ?_
  rintro e w4 ⟨r, rfl, hr, hSn, hgn⟩
  have r1 := hr.1
  have r2 := hr.2.1 (by omega)
  replace B0 := B0.grown hgn (by simp; omega)
  replace hg := hg.trans hgn
  replace hS := hSn
  have hsz_w4 := hgn.size
  clear hgn hSn
  clear hr
  have hbA : Below w4.heap.size w4 (w4.alloc (.cells #[.int .i64 k, .int .i64 (1 + r), .int .i64 0] 90)) := by go_grown
  have B1 := Blk.new w4 90 #[.int .i64 k, .int .i64 (1 + r), .int .i64 0]
  have hlt4 := B0.lt
  have B0w := B0
  have hSw := hS
  have hgw := hg
  replace B0 := B0.below hbA
  replace hS := hS.below hbA
  have hsw := hg.size
  replace hg := grown_low hg (hbA.mono hsw)
  have q0 := B1.cell 0 _ rfl
  clear hbA
  by_cases hk : k = 3
  · have hk' : (k != 3) = false := by simp [hk]
    have p0 := B0w.cell 0 _ rfl
    have p1 := B0w.cell 1 _ rfl
    have p2 := B0w.cell 2 _ rfl
    have f0 := B0w.frozen 0
    have f1 := B0w.frozen 1
    have f2 := B0w.frozen 2
    clear B0 B1 B0w hS hg hk q0
    go_wp2
    refine bodyPost_ret (v := .agg #[.int .i64 k, .int .i64 (1 + r), .int .i64 0]) (by simp [results, Try.results69, go_sem, p0, p1, p2, hlt4]) rfl ?_
    have hbE : ∀ O, Below w.heap.size w4 ((((w4.setCell ⟨w.heap.size, 0, none⟩ (.int .i64 k)).setCell ⟨w.heap.size, 1, none⟩ (.int .i64 (1 + r))).setCell ⟨w.heap.size, 2, none⟩ (.int .i64 0)).alloc O) := fun O =>
      ((((Below.refl _ _).setCell (p := ⟨w.heap.size, 0, none⟩) (Nat.le_refl _) _).setCell (p := ⟨w.heap.size, 1, none⟩) (Nat.le_refl _) _).setCell (p := ⟨w.heap.size, 2, none⟩) (Nat.le_refl _) _).alloc (by simp [World.setCell]; omega) O
    exact ⟨_, _, _, rfl, (hSw.low (hbE _) hlt.2).mono (by omega), grown_low hgw (hbE _)⟩
  · have hk' : (k != 3) = true := by simp [bne_iff_ne, hk]
    clear B0w hSw hgw
    go_wp2_with fail
    clear q0
    have hs5 : w4.heap.size + 1 = (w4.alloc (.cells #[.int .i64 k, .int .i64 (1 + r), .int .i64 0] 90)).heap.size := by simp
    generalize w4.alloc (.cells #[.int .i64 k, .int .i64 (1 + r), .int .i64 0] 90) = W5 at *
    simp only [hs5]
    clear hs5
    have hltp := hS.lt
    have hbA : Below W5.heap.size W5 (W5.alloc (.cells #[.int .i64 0, .int .i64 1, .int .i64 5, .int .i64 (-3), .int .i64 1000] 2)) := by go_grown
    replace B0 := B0.below hbA
    replace B1 := B1.below hbA
    replace hg := hg.trans (World.grownBy_alloc W5 (.cells #[.int .i64 0, .int .i64 1, .int .i64 5, .int .i64 (-3), .int .i64 1000] 2) (some b))
    refine (pick_any B b (T + 1 + 1) W5.heap.size _ [0, 1, 5, -3, 1000] _ (hS.below (by go_grown)) (by omega) (World.ownsRow_lit W5 _ 5 (Nat.le_refl _) (by decide) rfl) (by simp) (by simp) (by simp [Value.ownBlock]; omega)).mono ?_
    rintro e w6 ⟨z, rfl, hmem, hSn, hgn⟩
    replace B0 := B0.grown hgn (by simp; omega)
    replace B1 := B1.grown hgn (by simp; omega)
    replace hg := hg.trans hgn
    replace hS := hSn
    have hsz_w6 := hgn.size
    clear hgn hSn
    clear hmem
    have hsb : w4.heap.size < w6.heap.size := B1.lt
    have q0 := B1.cell 0 _ rfl
    have q1 := B1.cell 1 _ rfl
    have q2 := B1.cell 2 _ rfl
    have g2 := B1.frozen 2
    have p0 := B0.cell 0 _ rfl
    have p1 := B0.cell 1 _ rfl
    have p2 := B0.cell 2 _ rfl
    have f0 := B0.frozen 0
    have f1 := B0.frozen 1
    have f2 := B0.frozen 2
    have hne0 : w.heap.size ≠ w4.heap.size := by omega
    clear B0 B1 hk
    go_wp2
    refine bodyPost_ret (v := .agg #[.int .i64 k, .int .i64 (1 + r), .int .i64 z]) (by simp [results, Try.results69, go_sem, p0, p1, p2]) rfl ?_
    have hbE : Below w.heap.size w6 ((((w6.setCell ⟨w4.heap.size, 2, none⟩ (.int .i64 z)).setCell ⟨w.heap.size, 0, none⟩ (.int .i64 k)).setCell ⟨w.heap.size, 1, none⟩ (.int .i64 (1 + r))).setCell ⟨w.heap.size, 2, none⟩ (.int .i64 z)) := by
      exact ((((Below.refl _ _).setCell (p := ⟨w4.heap.size, 2, none⟩) (show w.heap.size ≤ w4.heap.size by omega) _).setCell (p := ⟨w.heap.size, 0, none⟩) (Nat.le_refl _) _).setCell (p := ⟨w.heap.size, 1, none⟩) (Nat.le_refl _) _).setCell (p := ⟨w.heap.size, 2, none⟩) (Nat.le_refl _) _
    exact ⟨_, _, _, rfl, (hS.low hbE hlt.2).mono (by omega), grown_low hg hbE⟩

end Go.Proofs.Ytbdphnmkpkgdeaa

/- The draws of FnTxns. -/
import Derived.Test.YtjaoggkpnjkkpaaDoorDraw2d
namespace Go.Proofs.YtjaoggkpnjkkpaaDoor
open Go.RowKit Go.Maps
set_option linter.unusedVariables false
set_option linter.unusedSimpArgs false

set_option maxRecDepth 100000 in
set_option maxHeartbeats 600000 in
theorem drawPackTxn_any (a : Option Addr) (cap : Nat) (bs : List Int) (w : World) (h : Row .u8 w a bs) (hu : ∀ i, 0 ≤ bs.getD i 0 ∧ bs.getD i 0 ≤ 255) (hl : bs.length ≤ 1048576) :
    Calls Tryd.prog 7 #[.slice a bs.length cap] w fun e w' => ∃ (i s q : Int) (ta : Option Addr) (tc : Nat) (zs : List ActD), e = .returned (.agg #[.int .i64 i, .int .i64 s, .int .i64 q, .slice ta zs.length tc]) ∧ zs.length ≤ 5 ∧ ActRow w' ta zs ∧ Below w.heap.size w w' := by
  have B0 := Blk.new w 27 #[.int .i64 0, .int .i64 0, .int .i64 0, .slice none 0 0]
  have hb0 : Below w.heap.size w (w.alloc (.cells #[.int .i64 0, .int .i64 0, .int .i64 0, .slice none 0 0] 27)) := by go_grown
  replace h := h.below hb0
  go_enter Tryd.func7, Tryd.ntmps7
  go_wp2_with fail
  generalize w.alloc (.cells #[.int .i64 0, .int .i64 0, .int .i64 0, .slice none 0 0] 27) = W1 at B0 hb0 h
  have hlt0 := B0.lt
  refine (source_any W1.heap.size a cap bs W1 (Nat.le_refl _) hl hu h).mono ?_
  rintro e w3 ⟨rfl, hS, hb⟩
  clear h hu
  have hlt3 := hS.lt
  go_wp2_with fail
  refine (l2Bent_any W1.heap.size W1.heap.size 0 w3 hS (by omega)).mono ?_
  rintro e w4 ⟨i, s, q, ta, tc, zs, rfl, hzl, hoz, hSn, hgn⟩
  replace hb := below_of_src hb hgn (Nat.le_refl _)
  replace B0 := B0.below hb
  replace hb0 := hb0.trans (hb.mono hb0.size)
  clear hgn hSn hS hb
  have p0 := B0.cell 0 _ rfl
  have p1 := B0.cell 1 _ rfl
  have p2 := B0.cell 2 _ rfl
  have p3 := B0.cell 3 _ rfl
  have f0 := B0.frozen 0
  have f1 := B0.frozen 1
  have f2 := B0.frozen 2
  have f3 := B0.frozen 3
  clear B0
  go_wp2
  refine bodyPost_ret (v := .agg #[.int .i64 i, .int .i64 s, .int .i64 q, .slice ta zs.length tc]) (by simp [results, Tryd.results7, go_sem, p0, p1, p2, p3]) rfl ?_
  refine ⟨i, s, q, ta, tc, zs, rfl, hzl, ?_, ?_⟩
  · refine Lies.own (base := w3.heap.size) (n := zs.length) (c := tc) (e := 54) (size := 3) ?_
    repeat' (refine ownsRow_setCell_below ?_ (by dsimp only; omega) _)
    exact hoz
  · repeat' (refine Below.setCell ?_ (by dsimp only; omega) _)
    exact hb0

set_option maxRecDepth 100000 in
set_option maxHeartbeats 600000 in
theorem drawFindTxn_any (a : Option Addr) (cap : Nat) (bs : List Int) (w : World) (h : Row .u8 w a bs) (hu : ∀ i, 0 ≤ bs.getD i 0 ∧ bs.getD i 0 ≤ 255) (hl : bs.length ≤ 1048576) :
    Calls Tryd.prog 9 #[.slice a bs.length cap] w fun e w' => ∃ (v : Value) (ps : List TxnP) (n : Int), e = .returned (.tuple #[v, .int .i64 n]) ∧ ps.length ≤ 61 ∧ (∀ p ∈ ps, p.d.acts.length ≤ 5) ∧ TxnRow w.heap.size w' v ps ∧ Below w.heap.size w w' := by
  go_enter Tryd.func9, Tryd.ntmps9
  go_wp2_with fail
  refine (source_any w.heap.size a cap bs w (Nat.le_refl _) hl hu h).mono ?_
  rintro e w2 ⟨rfl, hS, hb⟩
  clear h hu
  have hlt2 := hS.lt
  go_wp2_with fail
  refine (l2BentMany_any w.heap.size w.heap.size 0 w2 hS (by omega)).mono ?_
  rintro e w4 ⟨v, ps, rfl, hpl, hpa, hR, hSn, hgn⟩
  replace hb := below_of_src hb hgn (Nat.le_refl _)
  replace hS := hSn
  have HP : Hid (∀ p ∈ ps, p.d.acts.length ≤ 5) := hpa
  obtain ⟨va, vc, rfl⟩ := own_shape hR.1
  clear hgn hSn hpa
  go_wp2_with fail
  refine (next_any w.heap.size w.heap.size (0 + 200) 14 w4 hS (by omega) (by omega)).mono ?_
  rintro e w5 ⟨r, rfl, hr, hSn, hgn⟩
  have hr1 := hr.1
  have hr2 := hr.2.1 (by omega)
  replace hR := hR.src hlt2.2 hgn
  replace hb := below_of_src hb hgn (Nat.le_refl _)
  have HR : Hid (TxnRow w.heap.size w5 (.slice va ps.length vc) ps) := ⟨own_base hR.1 (by omega), fun p hp => ⟨own_base (hR.2.1 p hp).1 (by omega), (hR.2.1 p hp).2⟩, hR.2.2⟩
  clear hgn hSn hS hr hR
  go_wp2
  go_ret2
  exact ⟨_, ps, _, rfl, hpl, HP.out, HR.out, hb⟩

end Go.Proofs.YtjaoggkpnjkkpaaDoor

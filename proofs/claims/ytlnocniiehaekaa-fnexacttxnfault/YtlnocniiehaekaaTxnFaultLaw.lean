/- FnExactTxnFault walked: it comes out true, and only new memory is made. No condition. -/
import Derived.Test.YtlnocniiehaekaaD2g
namespace Go.Proofs.Ytlnocniiehaekaa
open Go.RowKit
open Go.BigFrame
set_option linter.unusedVariables false
set_option linter.unusedSimpArgs false

theorem Box4.zero {w : World} {b : Nat} {x0 x1 x2 x3 : Value} (h : Box4 w b 0 x0 x1 x2 x3) : w.cell? ⟨b, 0, none⟩ = some x0 ∧ w.cell? ⟨b, 1, none⟩ = some x1 ∧ w.cell? ⟨b, 2, none⟩ = some x2 ∧ w.cell? ⟨b, 3, none⟩ = some x3 :=
  ⟨h.c0, by simpa using h.c1, by simpa using h.c2, by simpa using h.c3⟩

theorem Box4.lat {w : World} {b : Nat} {x0 x1 x2 x3 : Value} (h : Box4 w b 0 x0 x1 x2 x3) : (∀ u : Lat w, u.val.cell? ⟨b, 0, none⟩ = some x0) ∧ (∀ u : Lat w, u.val.cell? ⟨b, 1, none⟩ = some x1) ∧ (∀ u : Lat w, u.val.cell? ⟨b, 2, none⟩ = some x2) ∧ (∀ u : Lat w, u.val.cell? ⟨b, 3, none⟩ = some x3) :=
  ⟨lat_cell h.zero.1, lat_cell h.zero.2.1, lat_cell h.zero.2.2.1, lat_cell h.zero.2.2.2⟩

set_option maxHeartbeats 2000000 in
theorem txnFaultLaw (i s q : Int) (a : Option Addr) (cap : Nat) (zs : List ActD) (w : World) (h : ActRow w a zs) (hn : zs.length ≤ 9223372036854775807) :
    Calls Try.prog 3 #[.agg #[.int .i64 i, .int .i64 s, .int .i64 q, .slice a zs.length cap]] w fun e w' => e = .returned (.bool true) ∧ Below w.heap.size w w' := by
  have hs := fun w => szTxn_any i s q a zs.length cap 1048576 w hn (by omega) (by omega)
  by_cases hbig : (1048576 : Int) - zs.length < 0
  · rw [if_pos hbig] at hs
    go_enter Try.func3, Try.ntmps3
    go_wp2_with fail
    refine (hs _).mono ?_
    rintro e w1 ⟨rfl, hb⟩
    go_wp2
    go_ret
    exact ⟨rfl, below_from (by go_grown) hb⟩
  rw [if_neg hbig] at hs
  have hl : zs.length ≤ 1048576 := by omega
  generalize hX : (1048576 : Int) - zs.length = X at hs hbig
  clear hX
  have hto := fun w h => toTxn_any i s q a cap zs w h hl
  have hsp := fun a c w h => specTxnFault_any i s q a c zs w h hl
  have him := fun a c w h => txnFault_any i s q a c zs w h hl
  have heq := fun a c a' c' w h h' => eqTxn_true i s q a a' c c' zs w h h' (by omega)
  generalize txnF i s q zs = r at hsp him
  have hrr : (r != r) = false := by simp
  have hb0 : Below w.heap.size w (w.alloc (.cells #[.int .i64 i, .int .i64 s, .int .i64 q, .slice a zs.length cap] 24)) := by go_grown
  have B1 := box4_new w (.int .i64 i) (.int .i64 s) (.int .i64 q) (.slice a zs.length cap) 24
  go_enter Try.func3, Try.ntmps3
  go_wp2_with fail
  generalize w.alloc (.cells #[.int .i64 i, .int .i64 s, .int .i64 q, .slice a zs.length cap] 24) = W at hb0 B1
  refine (hs _).mono ?_
  rintro e w1 ⟨rfl, hb⟩
  replace B1 := B1.below hb
  replace hb0 := hb0.trans (hb.mono hb0.size)
  replace h := h.below hb0
  clear hb hs
  obtain ⟨p0, p1, p2, p3⟩ := B1.zero
  go_wp2_with fail
  -- w0
  refine (hto _ h).mono ?_
  rintro e w2 ⟨g2, c2, rfl, o2, hb⟩
  replace B1 := B1.below hb
  replace hb0 := hb0.trans (hb.mono hb0.size)
  replace h := h.below hb
  clear hb p0 p1 p2 p3
  go_wp2_with fail
  refine (hsp _ _ _ (Lies.own o2)).mono ?_
  rintro e w3 ⟨rfl, hb⟩
  replace B1 := B1.below hb
  replace hb0 := hb0.trans (hb.mono hb0.size)
  replace h := h.below hb
  clear hb o2
  obtain ⟨p0, p1, p2, p3⟩ := B1.zero
  go_wp2_with fail
  -- x0
  refine (hto _ h).mono ?_
  rintro e w4 ⟨g4, c4, rfl, o4, hb⟩
  replace B1 := B1.below hb
  replace hb0 := hb0.trans (hb.mono hb0.size)
  replace h := h.below hb
  clear hb p0 p1 p2 p3
  have hR4 : ActRow w4 (some ⟨g4, 0, none⟩) zs := Lies.own o4
  clear o4
  have hb : Below w4.heap.size w4 (w4.alloc (.cells #[.int .i64 i, .int .i64 s, .int .i64 q, .slice (some ⟨g4, 0, none⟩) zs.length c4] 29)) := by go_grown
  have B5 := box4_new w4 (.int .i64 i) (.int .i64 s) (.int .i64 q) (.slice (some ⟨g4, 0, none⟩) zs.length c4) 29
  go_wp2_with fail
  generalize w4.alloc (.cells #[.int .i64 i, .int .i64 s, .int .i64 q, .slice (some ⟨g4, 0, none⟩) zs.length c4] 29) = w5 at hb B5
  replace B1 := B1.below hb
  replace hb0 := hb0.trans (hb.mono hb0.size)
  replace h := h.below hb
  replace hR4 := hR4.below hb
  clear hb
  generalize w4.heap.size = b5 at B5
  -- g0
  refine (him _ _ _ hR4).mono ?_
  rintro e w6 ⟨rfl, hb⟩
  replace B1 := B1.below hb
  replace B5 := B5.below hb
  replace hb0 := hb0.trans (hb.mono hb0.size)
  replace h := h.below hb
  replace hR4 := hR4.below hb
  clear hb
  go_wp2_with fail
  -- x0 reads as it did
  have hW : Below w6.heap.size w6 w6.drew := (Below.refl _ _).drew
  have hne : Nonempty (Lat w6) := ⟨⟨w6, Below.refl _ _⟩⟩
  obtain ⟨p0, p1, p2, p3⟩ := B1.lat
  obtain ⟨q0, q1, q2, q3⟩ := B5.lat
  refine text_begin (S := fun w' => ∃ u : Lat w6, w' = u.val) (by kernel_rfl) ?_
  refine seg_range [(0, 2)] 3 (by kernel_rfl) (by kernel_rfl) (by kernel_rfl) (by kernel_rfl) (by kernel_rfl) ⟨⟨_, hW⟩, rfl⟩ ?_
  simp only [pickR, List.toList_toArray, List.flatMap_cons, List.flatMap_nil, List.drop_succ_cons, List.drop_zero, List.take_succ_cons, List.take_zero, List.cons_append, List.nil_append, List.append_nil]
  repeat go_big_quiet_step (fail)
  refine wpQuiet_nil ?_
  refine call_at 2 (some 24) 10 #[.agg #[.int .i64 i, .int .i64 s, .int .i64 q, .slice a zs.length cap]] 2 (by kernel_rfl) (by kernel_rfl) (by kernel_rfl) (by kernel_rfl) (by kernel_rfl) ?_
  refine (hto _ (h.below hW)).mono ?_
  rintro e w7 ⟨g7, c7, rfl, o7, hb⟩
  replace hW := hW.trans (hb.mono hW.size)
  clear hb
  refine ⟨_, rfl, ⟨⟨_, hW⟩, rfl⟩, ?_⟩
  simp only [Act.put, List.setIfInBounds_toArray, List.set_cons_zero, List.set_cons_succ]
  refine call_at 3 (some 25) 12 #[.agg #[.int .i64 i, .int .i64 s, .int .i64 q, .slice (some ⟨g4, 0, none⟩) zs.length c4], .agg #[.int .i64 i, .int .i64 s, .int .i64 q, .slice (some ⟨g7, 0, none⟩) zs.length c7]] 1 (by kernel_rfl) (by kernel_rfl) (by kernel_rfl) (by kernel_rfl) (by kernel_rfl) ?_
  refine (heq _ _ _ _ _ (hR4.below hW) (Lies.own o7)).mono ?_
  rintro e w8 ⟨rfl, hb⟩
  replace hW := hW.trans (hb.mono hW.size)
  clear hb o7
  refine ⟨_, rfl, ⟨⟨_, hW⟩, rfl⟩, ?_⟩
  simp only [Act.put, List.setIfInBounds_toArray, List.set_cons_zero, List.set_cons_succ]
  refine seg_range [(4, 1)] 0 (by kernel_rfl) (by kernel_rfl) (by kernel_rfl) (by kernel_rfl) (by kernel_rfl) ⟨⟨_, hW⟩, rfl⟩ ?_
  simp only [pickR, List.toList_toArray, List.flatMap_cons, List.flatMap_nil, List.drop_succ_cons, List.drop_zero, List.take_succ_cons, List.take_zero, List.cons_append, List.nil_append, List.append_nil]
  repeat go_big_quiet_step (fail)
  refine wpQuiet_nil ?_
  refine text_end (by kernel_rfl) ?_
  replace hb0 := hb0.trans (hW.mono hb0.size)
  clear p0 p1 p2 p3 q0 q1 q2 q3 hW hne
  go_wp2
  go_ret
  exact ⟨rfl, hb0⟩

end Go.Proofs.Ytlnocniiehaekaa

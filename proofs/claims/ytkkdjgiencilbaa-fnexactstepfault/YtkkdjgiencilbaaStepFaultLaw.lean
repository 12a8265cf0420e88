/- FnExactStepFault walked: it comes out true, and only new memory is made. No condition. -/
import Derived.Test.YtkkdjgiencilbaaSp13
import Derived.Test.YtkkdjgiencilbaaHc13
namespace Go.Proofs.Ytkkdjgiencilbaa
open Go.RowKit
open Go.BigFrame
set_option linter.unusedVariables false
set_option linter.unusedSimpArgs false
set_option maxRecDepth 100000

set_option maxHeartbeats 8000000 in
theorem stepFaultLaw (p : StepQ) (w : World) (h : stepK.rd w p) (hn : StepQ.wf p) :
    Calls Try.prog 4 #[.agg #[.int .i64 p.kd, .int .i64 p.nd, .int .i64 p.nn, .int .i64 p.i, .int .i64 p.s, .int .i64 p.q, p.va, .int .i64 p.vk, .int .i64 p.vr, .int .i64 p.vn, .int .i64 p.vv]] w fun e w' => e = .returned (.bool true) ∧ Below w.heap.size w w' := by
  have hs := fun w h => szStep_k p 1048576 w h hn (by omega) (by omega)
  have hto := fun w h hl => toStep_k p w h hl
  have hsp := fun (q : StepQ) (hq : q.e = p.e) w h => specStepFault_any q w h
  have him := fun (q : StepQ) (hq : q.e = p.e) w h hl => implStepFault_any q w h hl
  have hqn : ∀ q : StepQ, q.e = p.e → StepQ.n q = StepQ.n p := fun q hq => congrArg (fun d : StepD => d.t.acts.length) hq
  have heq := fun (q q' : StepQ) (hq : q.e = p.e) (hq' : q'.e = p.e) w h h' hl => eqStep_k q q' w h h' (hq.trans hq'.symm) hl
  have hrb := fun (w' : World) hb => stepK.rd_below (p := p) (w' := w') h hb
  have HF : ∀ q : StepQ, q.e = p.e → sfF q.e = sfF p.e := fun q hq => by rw [hq]
  generalize hr : sfF p.e = r at *
  have hrr : (r != r) = false := by simp
  generalize hpn : StepQ.n p = pn at *
  generalize hpe : p.e = pe at *
  clear hr hpn
  obtain ⟨kd, nd, nn, i, s, q, va, acts, vk, vr, vn, vv⟩ := p
  have h0 : actK.At w va acts := h
  obtain ⟨a, c, rfl⟩ := h0.shape
  clear h0 h hpe
  dsimp only at hs hto
  have b0 : Below w.heap.size w (w.alloc (.cells #[.int .i64 kd, .int .i64 nd, .int .i64 nn, .int .i64 i, .int .i64 s, .int .i64 q, .slice a acts.length c, .int .i64 vk, .int .i64 vr, .int .i64 vn, .int .i64 vv] 40)) := by go_grown
  have B := Blk.new w 40 #[.int .i64 kd, .int .i64 nd, .int .i64 nn, .int .i64 i, .int .i64 s, .int .i64 q, .slice a acts.length c, .int .i64 vk, .int .i64 vr, .int .i64 vn, .int .i64 vv]
  have p0 := B.cell 0 _ rfl
  have p1 := B.cell 1 _ rfl
  have p2 := B.cell 2 _ rfl
  have p3 := B.cell 3 _ rfl
  have p4 := B.cell 4 _ rfl
  have p5 := B.cell 5 _ rfl
  have p6 := B.cell 6 _ rfl
  have p7 := B.cell 7 _ rfl
  have p8 := B.cell 8 _ rfl
  have p9 := B.cell 9 _ rfl
  have p10 := B.cell 10 _ rfl
  go_enter Try.func4, Try.ntmps4
  go_wp2_with fail
  clear p0 p1 p2 p3 p4 p5 p6 p7 p8 p9 p10
  have h1 := hrb _ b0
  generalize w.alloc (.cells #[.int .i64 kd, .int .i64 nd, .int .i64 nn, .int .i64 i, .int .i64 s, .int .i64 q, .slice a acts.length c, .int .i64 vk, .int .i64 vr, .int .i64 vn, .int .i64 vv] 40) = W at *
  refine (hs W h1).mono ?_
  rintro e w1 ⟨x, rfl, hx, hb⟩
  replace B := B.below hb
  replace b0 := b0.trans (hb.mono b0.size)
  clear hb hs h1
  by_cases hneg : x < 0
  · go_wp2
    go_ret
    exact ⟨rfl, b0⟩
  have hl : (pn : Int) + x = 1048576 := hx (by omega)
  replace hl : pn ≤ 1048576 := by omega
  clear hx
  have p0 := B.cell 0 _ rfl
  have p1 := B.cell 1 _ rfl
  have p2 := B.cell 2 _ rfl
  have p3 := B.cell 3 _ rfl
  have p4 := B.cell 4 _ rfl
  have p5 := B.cell 5 _ rfl
  have p6 := B.cell 6 _ rfl
  have p7 := B.cell 7 _ rfl
  have p8 := B.cell 8 _ rfl
  have p9 := B.cell 9 _ rfl
  have p10 := B.cell 10 _ rfl
  go_wp2_with fail
  clear p0 p1 p2 p3 p4 p5 p6 p7 p8 p9 p10 hneg
  refine (hto w1 (hrb w1 b0) hl).mono ?_
  rintro e w2 ⟨y2, rfl, e2, o2, n2, g2, hb⟩
  replace B := B.below hb
  replace b0 := b0.trans (hb.mono b0.size)
  clear hb n2 g2
  have l2 : StepQ.n y2 ≤ 1048576 := by rw [hqn y2 e2]; exact hl
  have r2 := stepK.own_rd o2
  clear o2
  have hi2 := him y2 e2
  rw [HF y2 e2] at hi2
  have hp2 := hsp y2 e2
  rw [HF y2 e2] at hp2
  go_wp2_with fail
  refine (hp2 w2 r2).mono ?_
  rintro e w3 ⟨rfl, hb⟩
  replace B := B.below hb
  replace b0 := b0.trans (hb.mono b0.size)
  clear hb hi2 hp2 r2 l2 e2
  have p0 := B.cell 0 _ rfl
  have p1 := B.cell 1 _ rfl
  have p2 := B.cell 2 _ rfl
  have p3 := B.cell 3 _ rfl
  have p4 := B.cell 4 _ rfl
  have p5 := B.cell 5 _ rfl
  have p6 := B.cell 6 _ rfl
  have p7 := B.cell 7 _ rfl
  have p8 := B.cell 8 _ rfl
  have p9 := B.cell 9 _ rfl
  have p10 := B.cell 10 _ rfl
  go_wp2_with fail
  clear p0 p1 p2 p3 p4 p5 p6 p7 p8 p9 p10
  refine (hto w3 (hrb w3 b0) hl).mono ?_
  rintro e w4 ⟨y4, rfl, e4, o4, n4, g4, hb⟩
  replace B := B.below hb
  replace b0 := b0.trans (hb.mono b0.size)
  clear hb n4 g4
  have l4 : StepQ.n y4 ≤ 1048576 := by rw [hqn y4 e4]; exact hl
  have r4 := stepK.own_rd o4
  clear o4
  have hi4 := him y4 e4
  rw [HF y4 e4] at hi4
  have hp4 := hsp y4 e4
  rw [HF y4 e4] at hp4
  have heq4 := fun q' hq' => heq y4 q' e4 hq'
  have hrd4 := fun (w' : World) hb => stepK.rd_below (p := y4) (w' := w') r4 hb
  clear e4 hp4 heq
  obtain ⟨yk, yd, yn, yi, ys, yq, yva, yac, yvk, yvr, yvn, yvv⟩ := y4
  have r4' : actK.At w4 yva yac := r4
  obtain ⟨ya, yc, rfl⟩ := r4'.shape
  clear r4'
  dsimp only at hi4 heq4
  have hb : Below w4.heap.size w4 (w4.alloc (.cells #[.int .i64 yk, .int .i64 yd, .int .i64 yn, .int .i64 yi, .int .i64 ys, .int .i64 yq, .slice ya yac.length yc, .int .i64 yvk, .int .i64 yvr, .int .i64 yvn, .int .i64 yvv] 48)) := by go_grown
  have C := Blk.new w4 48 #[.int .i64 yk, .int .i64 yd, .int .i64 yn, .int .i64 yi, .int .i64 ys, .int .i64 yq, .slice ya yac.length yc, .int .i64 yvk, .int .i64 yvr, .int .i64 yvn, .int .i64 yvv]
  have hy := Below.refl w4.heap.size w4
  go_wp2_with fail
  replace hy := hy.trans hb
  replace B := B.below hb
  replace b0 := b0.trans (hb.mono b0.size)
  clear hb
  generalize w4.alloc (.cells #[.int .i64 yk, .int .i64 yd, .int .i64 yn, .int .i64 yi, .int .i64 ys, .int .i64 yq, .slice ya yac.length yc, .int .i64 yvk, .int .i64 yvr, .int .i64 yvn, .int .i64 yvv] 48) = w5 at *
  have q0 := C.cell 0 _ rfl
  have q1 := C.cell 1 _ rfl
  have q2 := C.cell 2 _ rfl
  have q3 := C.cell 3 _ rfl
  have q4 := C.cell 4 _ rfl
  have q5 := C.cell 5 _ rfl
  have q6 := C.cell 6 _ rfl
  have q7 := C.cell 7 _ rfl
  have q8 := C.cell 8 _ rfl
  have q9 := C.cell 9 _ rfl
  have q10 := C.cell 10 _ rfl
  go_wp2_with fail
  clear q0 q1 q2 q3 q4 q5 q6 q7 q8 q9 q10
  refine (hi4 w5 (hrd4 w5 hy) l4).mono ?_
  rintro e w6 ⟨rfl, hb⟩
  replace B := B.below hb
  replace C := C.below hb
  replace b0 := b0.trans (hb.mono b0.size)
  replace hy := hy.trans (hb.mono hy.size)
  clear hb hi4
  go_wp2_with fail
  have hW : Below w6.heap.size w6 w6.drew := (Below.refl _ _).drew
  have hne : Nonempty (Lat w6) := ⟨⟨w6, Below.refl _ _⟩⟩
  have p0 := B.lat 0 _ rfl
  have p1 := B.lat 1 _ rfl
  have p2 := B.lat 2 _ rfl
  have p3 := B.lat 3 _ rfl
  have p4 := B.lat 4 _ rfl
  have p5 := B.lat 5 _ rfl
  have p6 := B.lat 6 _ rfl
  have p7 := B.lat 7 _ rfl
  have p8 := B.lat 8 _ rfl
  have p9 := B.lat 9 _ rfl
  have p10 := B.lat 10 _ rfl
  have q0 := C.lat 0 _ rfl
  have q1 := C.lat 1 _ rfl
  have q2 := C.lat 2 _ rfl
  have q3 := C.lat 3 _ rfl
  have q4 := C.lat 4 _ rfl
  have q5 := C.lat 5 _ rfl
  have q6 := C.lat 6 _ rfl
  have q7 := C.lat 7 _ rfl
  have q8 := C.lat 8 _ rfl
  have q9 := C.lat 9 _ rfl
  have q10 := C.lat 10 _ rfl
  refine text_begin (S := fun w' => ∃ u : Lat w6, w' = u.val) (by kernel_rfl) ?_
  refine sgr [(0, 2)] 3 (by kernel_rfl) ⟨⟨_, hW⟩, rfl⟩ ?_
  simp only [pkE]
  repeat go_big_quiet_step (fail)
  refine wpQuiet_nil ?_
  refine cla 2 (some 24) 14 #[.agg #[.int .i64 kd, .int .i64 nd, .int .i64 nn, .int .i64 i, .int .i64 s, .int .i64 q, .slice a acts.length c, .int .i64 vk, .int .i64 vr, .int .i64 vn, .int .i64 vv]] 2 (by kernel_rfl) ?_
  refine (hto _ (hrb _ (b0.trans (hW.mono b0.size))) hl).mono ?_
  rintro e w7 ⟨y7, rfl, e7, o7, n7, g7, hb⟩
  replace hW := hW.trans (hb.mono hW.size)
  have r7 := stepK.own_rd o7
  have heq7 := heq4 y7 e7
  clear hb n7 g7 o7
  refine ⟨_, rfl, ⟨⟨_, hW⟩, rfl⟩, ?_⟩
  simp only [Act.put, pjE]
  refine cla 3 (some 25) 16 #[.agg #[.int .i64 yk, .int .i64 yd, .int .i64 yn, .int .i64 yi, .int .i64 ys, .int .i64 yq, .slice ya yac.length yc, .int .i64 yvk, .int .i64 yvr, .int .i64 yvn, .int .i64 yvv], .agg #[.int .i64 y7.kd, .int .i64 y7.nd, .int .i64 y7.nn, .int .i64 y7.i, .int .i64 y7.s, .int .i64 y7.q, y7.va, .int .i64 y7.vk, .int .i64 y7.vr, .int .i64 y7.vn, .int .i64 y7.vv]] 1 (by kernel_rfl) ?_
  refine (heq7 _ (hrd4 _ (hy.trans (hW.mono hy.size))) r7 l4).mono ?_
  rintro e w8 ⟨rfl, hb⟩
  replace hW := hW.trans (hb.mono hW.size)
  clear hb r7 heq7
  refine ⟨_, rfl, ⟨⟨_, hW⟩, rfl⟩, ?_⟩
  simp only [Act.put, pjE]
  refine sgr [(4, 1)] 0 (by kernel_rfl) ⟨⟨_, hW⟩, rfl⟩ ?_
  simp only [pkE]
  repeat go_big_quiet_step (fail)
  refine wpQuiet_nil ?_
  refine text_end (by kernel_rfl) ?_
  replace b0 := b0.trans (hW.mono b0.size)
  clear p0 p1 p2 p3 p4 p5 p6 p7 p8 p9 p10 q0 q1 q2 q3 q4 q5 q6 q7 q8 q9 q10 hW hne
  go_wp2
  go_ret
  exact ⟨rfl, b0⟩

end Go.Proofs.Ytkkdjgiencilbaa

/- What the helpers of the laws do with rounds, in the form of kinds. No condition. -/
import Derived.Test.YtkkdjgiencilbaaK6
import Derived.Test.YtkkdjgiencilbaaKT
import Derived.Test.YtkkdjgiencilbaaBlk5
namespace Go.Proofs.Ytkkdjgiencilbaa
open Go.RowKit
open Go.BigFrame
set_option linter.unusedVariables false
set_option linter.unusedSimpArgs false

def RoundQ.n (p : RoundQ) : Nat := p.rep.length + p.pro.length
def RoundQ.wf (p : RoundQ) : Prop := p.rep.length ≤ 9223372036854775807 ∧ p.pro.length ≤ 9223372036854775807
theorem infoRound : (Try.prog.info? 147).map (fun i => (i.zero, i.size, i.bytes)) = some (some (.agg #[.slice none 0 0, .slice none 0 0]), 2, 48) := by kernel_rfl


set_option maxHeartbeats 1000000 in
theorem szInts_k (v : Value) (zs : List Int) (c : Int) (w : World) (h : intK.At w v zs) (hn : zs.length ≤ 9223372036854775807) (h0 : 0 ≤ c) (h1 : c ≤ 1048576) :
    Calls Try.prog 78 #[v, .int .i64 c] w fun e w' => ∃ r : Int, e = .returned (.int .i64 r) ∧ (¬ r < 0 → (zs.length : Int) + r = c) ∧ Below w.heap.size w w' := by
  obtain ⟨a, cap, rfl⟩ := h.shape
  by_cases hbig : c - zs.length < 0
  · go_enter Try.func78, Try.ntmps78
    go_wp2
    go_ret
    exact ⟨_, rfl, fun h => by omega, Below.refl _ _⟩
  · go_enter Try.func78, Try.ntmps78
    go_wp2
    go_ret
    exact ⟨_, rfl, fun h => by omega, Below.refl _ _⟩

set_option maxHeartbeats 1000000 in
theorem szRound_k (p : RoundQ) (c : Int) (w : World) (h : roundK.rd w p) (hn : RoundQ.wf p) (h0 : 0 ≤ c) (h1 : c ≤ 1048576) :
    Calls Try.prog 99 #[.agg #[p.vr, p.vp], .int .i64 c] w fun e w' => ∃ r : Int, e = .returned (.int .i64 r) ∧ (¬ r < 0 → (RoundQ.n p : Int) + r = c) ∧ Below w.heap.size w w' := by
  obtain ⟨vr, rep, vp, pro⟩ := p
  obtain ⟨h_0, h_1⟩ : intK.At w vr rep ∧ intK.At w vp pro := h
  obtain ⟨hn_0, hn_1⟩ : rep.length ≤ 9223372036854775807 ∧ pro.length ≤ 9223372036854775807 := hn
  obtain ⟨a0, k0, rfl⟩ := h_0.shape
  obtain ⟨a1, k1, rfl⟩ := h_1.shape
  have B := Blk.new w 159 #[.slice a0 rep.length k0, .slice a1 pro.length k1]
  have hB : Below w.heap.size w (w.alloc (.cells #[.slice a0 rep.length k0, .slice a1 pro.length k1] 159)) := by go_grown
  dsimp only [RoundQ.n]
  go_enter Try.func99, Try.ntmps99
  go_wp2_with fail
  generalize w.alloc (.cells #[.slice a0 rep.length k0, .slice a1 pro.length k1] 159) = W at *
  refine (szInts_k _ rep c W (h_0.below hB) hn_0 (by omega) (by omega)).mono ?_
  rintro e w0 ⟨r0, rfl, hr0, hb0⟩
  replace B := B.below hb0
  replace hB := hB.trans (hb0.mono hB.size)
  clear hb0
  by_cases hneg0 : r0 < 0
  · go_wp2
    go_ret
    exact ⟨_, rfl, fun h => by omega, hB⟩
  have hs0 := hr0 hneg0
  clear hr0
  have p1 := B.cell 1 _ rfl
  go_wp2_with fail
  clear p1
  refine (szInts_k _ pro r0 w0 (h_1.below hB) hn_1 (by omega) (by omega)).mono ?_
  rintro e w1 ⟨r1, rfl, hr1, hb1⟩
  replace B := B.below hb1
  replace hB := hB.trans (hb1.mono hB.size)
  clear hb1
  by_cases hneg1 : r1 < 0
  · go_wp2
    go_ret
    exact ⟨_, rfl, fun h => by omega, hB⟩
  have hs1 := hr1 hneg1
  clear hr1
  go_wp2
  go_ret
  exact ⟨_, rfl, fun _ => by omega, hB⟩

set_option maxHeartbeats 1000000 in
theorem eqRound_k (p p' : RoundQ) (w : World) (h : roundK.rd w p) (h' : roundK.rd w p') (he : p.e = p'.e) (hl : RoundQ.n p ≤ 1048576) :
    Calls Try.prog 112 #[.agg #[p.vr, p.vp], .agg #[p'.vr, p'.vp]] w fun e w' => e = .returned (.bool true) ∧ Below w.heap.size w w' := by
  obtain ⟨vr, rep, vp, pro⟩ := p
  obtain ⟨vr', rep', vp', pro'⟩ := p'
  simp only [RoundQ.e, RoundE.mk.injEq] at he
  obtain ⟨e_0, e_1⟩ := he
  dsimp only [RoundQ.n] at hl
  obtain ⟨h_0, h_1⟩ : intK.At w vr rep ∧ intK.At w vp pro := h
  obtain ⟨g_0, g_1⟩ : intK.At w vr' rep'  ∧ intK.At w vp' pro'  := h'
  subst e_0
  subst e_1
  have hq0 := fun w h1 h2 => eqInts_k vr vr' rep w h1 h2 (by omega)
  have hq1 := fun w h1 h2 => eqInts_k vp vp' pro w h1 h2 (by omega)
  obtain ⟨a0, k0, rfl⟩ := h_0.shape
  obtain ⟨b0, m0, rfl⟩ := g_0.shape
  obtain ⟨a1, k1, rfl⟩ := h_1.shape
  obtain ⟨b1, m1, rfl⟩ := g_1.shape
  have B := (Blk.new w 147 #[.slice a0 rep.length k0, .slice a1 pro.length k1]).below (w' := (w.alloc (.cells #[.slice a0 rep.length k0, .slice a1 pro.length k1] 147)).alloc (.cells #[.slice b0 rep.length m0, .slice b1 pro.length m1] 147)) (by go_grown)
  have C := Blk.new (w.alloc (.cells #[.slice a0 rep.length k0, .slice a1 pro.length k1] 147)) 147 #[.slice b0 rep.length m0, .slice b1 pro.length m1]
  have hB : Below w.heap.size w ((w.alloc (.cells #[.slice a0 rep.length k0, .slice a1 pro.length k1] 147)).alloc (.cells #[.slice b0 rep.length m0, .slice b1 pro.length m1] 147)) := by go_grown
  rw [World.size_alloc] at C
  skip
  go_enter Try.func112, Try.ntmps112
  go_wp2_with fail
  generalize (w.alloc (.cells #[.slice a0 rep.length k0, .slice a1 pro.length k1] 147)).alloc (.cells #[.slice b0 rep.length m0, .slice b1 pro.length m1] 147) = W at *
  refine (hq0 W (h_0.below hB) (g_0.below hB)).mono ?_
  rintro e w0 ⟨rfl, hb0⟩
  replace B := B.below hb0
  replace C := C.below hb0
  replace hB := hB.trans (hb0.mono hB.size)
  clear hb0 hq0
  have p1 := B.cell 1 _ rfl
  have q1 := C.cell 1 _ rfl
  go_wp2_with fail
  clear p1 q1
  refine (hq1 w0 (h_1.below hB) (g_1.below hB)).mono ?_
  rintro e w1 ⟨rfl, hb1⟩
  replace B := B.below hb1
  replace C := C.below hb1
  replace hB := hB.trans (hb1.mono hB.size)
  clear hb1 hq1
  go_wp2
  go_ret
  exact ⟨rfl, hB⟩

theorem apart_of {A B : List Nat} {m : Nat} (hA : ∀ k ∈ A, k < m) (hB : ∀ k ∈ B, m ≤ k) : ∀ a ∈ A, ∀ b ∈ B, a ≠ b := fun a ha b hb e => by
  have := hA a ha
  have := hB b hb
  omega

set_option maxHeartbeats 2000000 in
theorem toRound_k (p : RoundQ) (w : World) (h : roundK.rd w p) (hl : RoundQ.n p ≤ 1048576) :
    Calls Try.prog 106 #[.agg #[p.vr, p.vp]] w fun e w' => ∃ p' : RoundQ, e = .returned (.agg #[p'.vr, p'.vp]) ∧ p'.e = p.e ∧ roundK.own w' p' ∧ (roundK.foot p').Nodup ∧ (∀ k ∈ roundK.foot p', w.heap.size ≤ k) ∧ Below w.heap.size w w' := by
  obtain ⟨vr, rep, vp, pro⟩ := p
  dsimp only [RoundQ.n] at hl
  obtain ⟨h_0, h_1⟩ : intK.At w vr rep ∧ intK.At w vp pro := h
  have ht0 := fun w h1 => toInts_k vr rep w h1 (by omega)
  have ht1 := fun w h1 => toInts_k vp pro w h1 (by omega)
  obtain ⟨a0, k0, rfl⟩ := h_0.shape
  obtain ⟨a1, k1, rfl⟩ := h_1.shape
  have B := (Blk.new w 159 #[.slice a0 rep.length k0, .slice a1 pro.length k1]).below (w' := ((w.alloc (.cells #[.slice a0 rep.length k0, .slice a1 pro.length k1] 159)).alloc (.cells #[.slice none 0 0, .slice none 0 0] 147)).alloc (.cells #[.slice none 0 0, .slice none 0 0] 147)) (by go_grown)
  have C := (Blk.new (w.alloc (.cells #[.slice a0 rep.length k0, .slice a1 pro.length k1] 159)) 147 #[.slice none 0 0, .slice none 0 0]).below (w' := ((w.alloc (.cells #[.slice a0 rep.length k0, .slice a1 pro.length k1] 159)).alloc (.cells #[.slice none 0 0, .slice none 0 0] 147)).alloc (.cells #[.slice none 0 0, .slice none 0 0] 147)) (by go_grown)
  have D := Blk.new ((w.alloc (.cells #[.slice a0 rep.length k0, .slice a1 pro.length k1] 159)).alloc (.cells #[.slice none 0 0, .slice none 0 0] 147)) 147 #[.slice none 0 0, .slice none 0 0]
  have hB : Below w.heap.size w (((w.alloc (.cells #[.slice a0 rep.length k0, .slice a1 pro.length k1] 159)).alloc (.cells #[.slice none 0 0, .slice none 0 0] 147)).alloc (.cells #[.slice none 0 0, .slice none 0 0] 147)) := by go_grown
  simp only [World.size_alloc] at C D
  have hS : w.heap.size + 3 ≤ (((w.alloc (.cells #[.slice a0 rep.length k0, .slice a1 pro.length k1] 159)).alloc (.cells #[.slice none 0 0, .slice none 0 0] 147)).alloc (.cells #[.slice none 0 0, .slice none 0 0] 147)).heap.size := by simp only [World.size_alloc]; omega
  go_enter Try.func106, Try.ntmps106
  go_wp2_with fail
  generalize ((w.alloc (.cells #[.slice a0 rep.length k0, .slice a1 pro.length k1] 159)).alloc (.cells #[.slice none 0 0, .slice none 0 0] 147)).alloc (.cells #[.slice none 0 0, .slice none 0 0] 147) = W at *
  refine (ht0 W (h_0.below hB)).mono ?_
  rintro e y0 ⟨v0, rfl, O0, N0, G0, hb⟩
  replace B := B.below hb
  replace C := C.below hb
  replace D := D.below hb
  replace hB := hB.trans (hb.mono hB.size)
  have s0 := hb.size
  obtain ⟨x0, z0, rfl⟩ := O0.shape
  clear hb ht0
  have p1 := B.cell 1 _ rfl
  have d0 := D.cell 0 _ rfl
  have f0 := D.frozen 0
  go_wp2_with fail
  clear p1 d0 f0
  have U0 := (Out.refl [w.heap.size + 1, w.heap.size + 1 + 1] y0).set (b := w.heap.size + 1 + 1) (j := 0) (u := .slice x0 rep.length z0) (by simp)
  replace D := D.set 0 (.slice x0 rep.length z0)
  replace B := B.other (b' := w.heap.size + 1 + 1) (by omega) 0 (.slice x0 rep.length z0)
  replace C := C.other (b' := w.heap.size + 1 + 1) (by omega) 0 (.slice x0 rep.length z0)
  replace hB := hB.setCell (p := ⟨w.heap.size + 1 + 1, 0, none⟩) (by show w.heap.size ≤ w.heap.size + 1 + 1; omega) (.slice x0 rep.length z0)
  have s1 := U0.size
  simp only [pjE] at D
  generalize y0.setCell ⟨w.heap.size + 1 + 1, 0, none⟩ (.slice x0 rep.length z0) = V0 at *
  refine (ht1 V0 (h_1.below hB)).mono ?_
  rintro e y1 ⟨v1, rfl, O1, N1, G1, hb⟩
  replace U0 := U0.call hb
  replace B := B.below hb
  replace C := C.below hb
  replace D := D.below hb
  replace hB := hB.trans (hb.mono hB.size)
  have s2 := hb.size
  obtain ⟨x1, z1, rfl⟩ := O1.shape
  clear hb ht1 B
  have d0 := D.cell 0 _ rfl
  have f0 := D.frozen 0
  have d1 := D.cell 1 _ rfl
  have f1 := D.frozen 1
  have c0 := C.cell 0 _ rfl
  have g0 := C.frozen 0
  have c1 := C.cell 1 _ rfl
  have g1 := C.frozen 1
  have R : Hid (∀ j u j' u' j2 u2, roundK.own (((y1.setCell ⟨w.heap.size + 1 + 1, j, none⟩ u).setCell ⟨w.heap.size + 1, j', none⟩ u').setCell ⟨w.heap.size + 1, j2, none⟩ u2) ⟨.slice x0 rep.length z0, rep, .slice x1 pro.length z1, pro⟩ ∧ Below w.heap.size w (((y1.setCell ⟨w.heap.size + 1 + 1, j, none⟩ u).setCell ⟨w.heap.size + 1, j', none⟩ u').setCell ⟨w.heap.size + 1, j2, none⟩ u2)) := by
    intro j u j' u' j2 u2
    have V0 := ((U0.set (b := w.heap.size + 1 + 1) (j := j) (u := u) (by simp)).set (b := w.heap.size + 1) (j := j') (u := u') (by simp)).set (b := w.heap.size + 1) (j := j2) (u := u2) (by simp)
    have V1 := (((Out.refl [w.heap.size + 1, w.heap.size + 1 + 1] y1).set (b := w.heap.size + 1 + 1) (j := j) (u := u) (by simp)).set (b := w.heap.size + 1) (j := j') (u := u') (by simp)).set (b := w.heap.size + 1) (j := j2) (u := u2) (by simp)
    refine ⟨⟨O0.out V0 (fun k hk => ?_), O1.out V1 (fun k hk => ?_)⟩, ?_⟩
    · have := G0 k hk
      simp only [List.mem_cons, List.not_mem_nil, or_false]; omega
    · have := G1 k hk
      simp only [List.mem_cons, List.not_mem_nil, or_false]; omega
    · exact ((hB.setCell (p := ⟨w.heap.size + 1 + 1, j, none⟩) (by show w.heap.size ≤ w.heap.size + 1 + 1; omega) u).setCell (p := ⟨w.heap.size + 1, j', none⟩) (by show w.heap.size ≤ w.heap.size + 1; omega) u').setCell (p := ⟨w.heap.size + 1, j2, none⟩) (by show w.heap.size ≤ w.heap.size + 1; omega) u2
  have R1 : Hid ((roundK.foot ⟨.slice x0 rep.length z0, rep, .slice x1 pro.length z1, pro⟩).Nodup ∧ (∀ k ∈ roundK.foot ⟨.slice x0 rep.length z0, rep, .slice x1 pro.length z1, pro⟩, w.heap.size ≤ k)) := by
    have L0 := O0.lt
    refine ⟨?_, ?_⟩
    · show List.Nodup (_ ++ _)
      exact List.nodup_append.2 ⟨N0, N1, apart_of (m := V0.heap.size) (fun k hk => by have := L0 k hk; omega) G1⟩
    · intro k hk
      rcases List.mem_append.1 hk with hk | hk
      · have := G0 k hk
        omega
      · have := G1 k hk
        omega
  clear O0 O1 N0 N1 G0 G1 U0 hB C D h_0 h_1
  go_wp2
  exact bodyPost_ret (v := .agg #[.slice x0 rep.length z0, .slice x1 pro.length z1]) (by simp [results, Try.results106, go_sem, c0, c1]) rfl ⟨⟨.slice x0 rep.length z0, rep, .slice x1 pro.length z1, pro⟩, rfl, rfl, (R.out _ _ _ _ _ _).1, R1.out.1, R1.out.2, (R.out _ _ _ _ _ _).2⟩

end Go.Proofs.Ytkkdjgiencilbaa

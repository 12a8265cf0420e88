/- What the helpers of the laws do with an instance, in the form of kinds: count, compare, copy. No condition. -/
import Derived.Test.YtkkdjgiencilbaaKRs
namespace Go.Proofs.Ytkkdjgiencilbaa
open Go.RowKit
open Go.BigFrame
set_option linter.unusedVariables false
set_option linter.unusedSimpArgs false

def InstQ.n (p : InstQ) : Nat := (p.batch.length + nmL TxnQ.n p.batch) + (p.rounds.length + nmL RoundQ.n p.rounds) + p.dec.length
def InstQ.wf (p : InstQ) : Prop := (p.batch.length ≤ 9223372036854775807 ∧ ∀ q ∈ p.batch, TxnQ.wf q) ∧ (p.rounds.length ≤ 9223372036854775807 ∧ ∀ q ∈ p.rounds, RoundQ.wf q) ∧ p.dec.length ≤ 9223372036854775807

set_option maxHeartbeats 1000000 in
theorem szInstance_k (p : InstQ) (c : Int) (w : World) (h : instK.rd w p) (hn : InstQ.wf p) (h0 : 0 ≤ c) (h1 : c ≤ 1048576) :
    Calls Try.prog 55 #[.agg #[.bool p.has, p.vb, p.vr, p.vd], .int .i64 c] w fun e w' => ∃ r : Int, e = .returned (.int .i64 r) ∧ (¬ r < 0 → (InstQ.n p : Int) + r = c) ∧ Below w.heap.size w w' := by
  obtain ⟨has, vb, batch, vr, rounds, vd, dec⟩ := p
  obtain ⟨h_1, h_2, h_3⟩ : txnK.At w vb batch ∧ roundK.At w vr rounds ∧ intK.At w vd dec := h
  obtain ⟨hn_1, hn_2, hn_3⟩ : (batch.length ≤ 9223372036854775807 ∧ ∀ p ∈ batch, TxnQ.wf p) ∧ (rounds.length ≤ 9223372036854775807 ∧ ∀ p ∈ rounds, RoundQ.wf p) ∧ dec.length ≤ 9223372036854775807 := hn
  obtain ⟨a1, k1, rfl⟩ := h_1.shape
  obtain ⟨a2, k2, rfl⟩ := h_2.shape
  obtain ⟨a3, k3, rfl⟩ := h_3.shape
  have B := Blk.new w 103 #[.bool has, .slice a1 batch.length k1, .slice a2 rounds.length k2, .slice a3 dec.length k3]
  have hB : Below w.heap.size w (w.alloc (.cells #[.bool has, .slice a1 batch.length k1, .slice a2 rounds.length k2, .slice a3 dec.length k3] 103)) := by go_grown
  dsimp only [InstQ.n]
  go_enter Try.func55, Try.ntmps55
  go_wp2_with fail
  generalize w.alloc (.cells #[.bool has, .slice a1 batch.length k1, .slice a2 rounds.length k2, .slice a3 dec.length k3] 103) = W at *
  refine (szTxns_k _ batch c W (h_1.below hB) hn_1.1 hn_1.2 (by omega) (by omega)).mono ?_
  rintro e w1 ⟨r1, rfl, hr1, hb1⟩
  replace B := B.below hb1
  replace hB := hB.trans (hb1.mono hB.size)
  clear hb1
  by_cases hneg1 : r1 < 0
  · go_wp2
    go_ret
    exact ⟨_, rfl, fun h => by omega, hB⟩
  have hs1 := hr1 hneg1
  clear hr1
  have p2 := B.cell 2 _ rfl
  go_wp2_with fail
  clear p2
  refine (szRounds_k _ rounds r1 w1 (h_2.below hB) hn_2.1 hn_2.2 (by omega) (by omega)).mono ?_
  rintro e w2 ⟨r2, rfl, hr2, hb2⟩
  replace B := B.below hb2
  replace hB := hB.trans (hb2.mono hB.size)
  clear hb2
  by_cases hneg2 : r2 < 0
  · go_wp2
    go_ret
    exact ⟨_, rfl, fun h => by omega, hB⟩
  have hs2 := hr2 hneg2
  clear hr2
  have p3 := B.cell 3 _ rfl
  go_wp2_with fail
  clear p3
  refine (szInts_k _ dec r2 w2 (h_3.below hB) hn_3 (by omega) (by omega)).mono ?_
  rintro e w3 ⟨r3, rfl, hr3, hb3⟩
  replace B := B.below hb3
  replace hB := hB.trans (hb3.mono hB.size)
  clear hb3
  by_cases hneg3 : r3 < 0
  · go_wp2
    go_ret
    exact ⟨_, rfl, fun h => by omega, hB⟩
  have hs3 := hr3 hneg3
  clear hr3
  go_wp2
  go_ret
  exact ⟨_, rfl, fun _ => by omega, hB⟩

set_option maxHeartbeats 1000000 in
theorem eqInstance_k (p p' : InstQ) (w : World) (h : instK.rd w p) (h' : instK.rd w p') (he : p.e = p'.e) (hl : InstQ.n p ≤ 1048576) :
    Calls Try.prog 65 #[.agg #[.bool p.has, p.vb, p.vr, p.vd], .agg #[.bool p'.has, p'.vb, p'.vr, p'.vd]] w fun e w' => e = .returned (.bool true) ∧ Below w.heap.size w w' := by
  obtain ⟨has, vb, batch, vr, rounds, vd, dec⟩ := p
  obtain ⟨has', vb', batch', vr', rounds', vd', dec'⟩ := p'
  simp only [InstQ.e, InstE.mk.injEq] at he
  obtain ⟨e_0, e_1, e_2, e_3⟩ := he
  dsimp only [InstQ.n] at hl
  obtain ⟨h_1, h_2, h_3⟩ : txnK.At w vb batch ∧ roundK.At w vr rounds ∧ intK.At w vd dec := h
  obtain ⟨g_1, g_2, g_3⟩ : txnK.At w vb' batch'  ∧ roundK.At w vr' rounds'  ∧ intK.At w vd' dec'  := h'
  subst e_0
  subst e_3
  have hq1 := fun w h1 h2 => eqTxns_k vb vb' batch batch' w h1 h2 e_1 (by omega)
  have hq2 := fun w h1 h2 => eqRounds_k vr vr' rounds rounds' w h1 h2 e_2 (by omega)
  have hq3 := fun w h1 h2 => eqInts_k vd vd' dec w h1 h2 (by omega)
  obtain ⟨a1, k1, rfl⟩ := h_1.shape
  obtain ⟨b1, m1, rfl⟩ := g_1.shape
  obtain ⟨a2, k2, rfl⟩ := h_2.shape
  obtain ⟨b2, m2, rfl⟩ := g_2.shape
  obtain ⟨a3, k3, rfl⟩ := h_3.shape
  obtain ⟨b3, m3, rfl⟩ := g_3.shape
  have B := (Blk.new w 115 #[.bool has, .slice a1 batch.length k1, .slice a2 rounds.length k2, .slice a3 dec.length k3]).below (w' := (w.alloc (.cells #[.bool has, .slice a1 batch.length k1, .slice a2 rounds.length k2, .slice a3 dec.length k3] 115)).alloc (.cells #[.bool has, .slice b1 batch'.length m1, .slice b2 rounds'.length m2, .slice b3 dec.length m3] 115)) (by go_grown)
  have C := Blk.new (w.alloc (.cells #[.bool has, .slice a1 batch.length k1, .slice a2 rounds.length k2, .slice a3 dec.length k3] 115)) 115 #[.bool has, .slice b1 batch'.length m1, .slice b2 rounds'.length m2, .slice b3 dec.length m3]
  have hB : Below w.heap.size w ((w.alloc (.cells #[.bool has, .slice a1 batch.length k1, .slice a2 rounds.length k2, .slice a3 dec.length k3] 115)).alloc (.cells #[.bool has, .slice b1 batch'.length m1, .slice b2 rounds'.length m2, .slice b3 dec.length m3] 115)) := by go_grown
  rw [World.size_alloc] at C
  have n0 : (has != has) = false := by simp
  clear e_1 e_2
  go_enter Try.func65, Try.ntmps65
  go_wp2_with fail
  generalize (w.alloc (.cells #[.bool has, .slice a1 batch.length k1, .slice a2 rounds.length k2, .slice a3 dec.length k3] 115)).alloc (.cells #[.bool has, .slice b1 batch'.length m1, .slice b2 rounds'.length m2, .slice b3 dec.length m3] 115) = W at *
  refine (hq1 W (h_1.below hB) (g_1.below hB)).mono ?_
  rintro e w1 ⟨rfl, hb1⟩
  replace B := B.below hb1
  replace C := C.below hb1
  replace hB := hB.trans (hb1.mono hB.size)
  clear hb1 hq1
  have p2 := B.cell 2 _ rfl
  have q2 := C.cell 2 _ rfl
  go_wp2_with fail
  clear p2 q2
  refine (hq2 w1 (h_2.below hB) (g_2.below hB)).mono ?_
  rintro e w2 ⟨rfl, hb2⟩
  replace B := B.below hb2
  replace C := C.below hb2
  replace hB := hB.trans (hb2.mono hB.size)
  clear hb2 hq2
  have p3 := B.cell 3 _ rfl
  have q3 := C.cell 3 _ rfl
  go_wp2_with fail
  clear p3 q3
  refine (hq3 w2 (h_3.below hB) (g_3.below hB)).mono ?_
  rintro e w3 ⟨rfl, hb3⟩
  replace B := B.below hb3
  replace C := C.below hb3
  replace hB := hB.trans (hb3.mono hB.size)
  clear hb3 hq3
  go_wp2
  go_ret
  exact ⟨rfl, hB⟩

set_option maxHeartbeats 4000000 in
theorem toInstance_k (p : InstQ) (w : World) (h : instK.rd w p) (hl : InstQ.n p ≤ 1048576) :
    Calls Try.prog 59 #[.agg #[.bool p.has, p.vb, p.vr, p.vd]] w fun e w' => ∃ p' : InstQ, e = .returned (.agg #[.bool p'.has, p'.vb, p'.vr, p'.vd]) ∧ p'.e = p.e ∧ instK.own w' p' ∧ (instK.foot p').Nodup ∧ (∀ k ∈ instK.foot p', w.heap.size ≤ k) ∧ Below w.heap.size w w' := by
  obtain ⟨has, vb, batch, vr, rounds, vd, dec⟩ := p
  dsimp only [InstQ.n] at hl
  obtain ⟨h_1, h_2, h_3⟩ : txnK.At w vb batch ∧ roundK.At w vr rounds ∧ intK.At w vd dec := h
  have ht1 := fun w h1 => toTxns_k vb batch w h1 (by omega)
  have ht2 := fun w h1 => toRounds_k vr rounds w h1 (by omega)
  have ht3 := fun w h1 => toInts_k vd dec w h1 (by omega)
  obtain ⟨a1, k1, rfl⟩ := h_1.shape
  obtain ⟨a2, k2, rfl⟩ := h_2.shape
  obtain ⟨a3, k3, rfl⟩ := h_3.shape
  have B := (Blk.new w 103 #[.bool has, .slice a1 batch.length k1, .slice a2 rounds.length k2, .slice a3 dec.length k3]).below (w' := ((w.alloc (.cells #[.bool has, .slice a1 batch.length k1, .slice a2 rounds.length k2, .slice a3 dec.length k3] 103)).alloc (.cells #[.bool false, .slice none 0 0, .slice none 0 0, .slice none 0 0] 115)).alloc (.cells #[.bool has, .slice none 0 0, .slice none 0 0, .slice none 0 0] 115)) (by go_grown)
  have C := (Blk.new (w.alloc (.cells #[.bool has, .slice a1 batch.length k1, .slice a2 rounds.length k2, .slice a3 dec.length k3] 103)) 115 #[.bool false, .slice none 0 0, .slice none 0 0, .slice none 0 0]).below (w' := ((w.alloc (.cells #[.bool has, .slice a1 batch.length k1, .slice a2 rounds.length k2, .slice a3 dec.length k3] 103)).alloc (.cells #[.bool false, .slice none 0 0, .slice none 0 0, .slice none 0 0] 115)).alloc (.cells #[.bool has, .slice none 0 0, .slice none 0 0, .slice none 0 0] 115)) (by go_grown)
  have D := Blk.new ((w.alloc (.cells #[.bool has, .slice a1 batch.length k1, .slice a2 rounds.length k2, .slice a3 dec.length k3] 103)).alloc (.cells #[.bool false, .slice none 0 0, .slice none 0 0, .slice none 0 0] 115)) 115 #[.bool has, .slice none 0 0, .slice none 0 0, .slice none 0 0]
  have hB : Below w.heap.size w (((w.alloc (.cells #[.bool has, .slice a1 batch.length k1, .slice a2 rounds.length k2, .slice a3 dec.length k3] 103)).alloc (.cells #[.bool false, .slice none 0 0, .slice none 0 0, .slice none 0 0] 115)).alloc (.cells #[.bool has, .slice none 0 0, .slice none 0 0, .slice none 0 0] 115)) := by go_grown
  simp only [World.size_alloc] at C D
  have hS : w.heap.size + 3 ≤ (((w.alloc (.cells #[.bool has, .slice a1 batch.length k1, .slice a2 rounds.length k2, .slice a3 dec.length k3] 103)).alloc (.cells #[.bool false, .slice none 0 0, .slice none 0 0, .slice none 0 0] 115)).alloc (.cells #[.bool has, .slice none 0 0, .slice none 0 0, .slice none 0 0] 115)).heap.size := by simp only [World.size_alloc]; omega
  go_enter Try.func59, Try.ntmps59
  go_wp2_with fail
  generalize ((w.alloc (.cells #[.bool has, .slice a1 batch.length k1, .slice a2 rounds.length k2, .slice a3 dec.length k3] 103)).alloc (.cells #[.bool false, .slice none 0 0, .slice none 0 0, .slice none 0 0] 115)).alloc (.cells #[.bool has, .slice none 0 0, .slice none 0 0, .slice none 0 0] 115) = W at *
  refine (ht1 W (h_1.below hB)).mono ?_
  rintro e y1 ⟨v1, q1, rfl, E1, O1, N1, G1, hb⟩
  replace B := B.below hb
  replace C := C.below hb
  replace D := D.below hb
  replace hB := hB.trans (hb.mono hB.size)
  have s1 := hb.size
  obtain ⟨x1, z1, rfl⟩ := O1.shape
  clear hb ht1
  have p2 := B.cell 2 _ rfl
  have d1 := D.cell 1 _ rfl
  have f1 := D.frozen 1
  go_wp2_with fail
  clear p2 d1 f1
  have U1 := (Out.refl [w.heap.size + 1, w.heap.size + 1 + 1] y1).set (b := w.heap.size + 1 + 1) (j := 1) (u := .slice x1 q1.length z1) (by simp)
  replace D := D.set 1 (.slice x1 q1.length z1)
  replace B := B.other (b' := w.heap.size + 1 + 1) (by omega) 1 (.slice x1 q1.length z1)
  replace C := C.other (b' := w.heap.size + 1 + 1) (by omega) 1 (.slice x1 q1.length z1)
  replace hB := hB.setCell (p := ⟨w.heap.size + 1 + 1, 1, none⟩) (by show w.heap.size ≤ w.heap.size + 1 + 1; omega) (.slice x1 q1.length z1)
  simp only [pjE] at D
  have t1 := U1.size
  generalize y1.setCell ⟨w.heap.size + 1 + 1, 1, none⟩ (.slice x1 q1.length z1) = V1 at *
  refine (ht2 V1 (h_2.below hB)).mono ?_
  rintro e y2 ⟨v2, q2, rfl, E2, O2, N2, G2, hb⟩
  replace U1 := U1.call hb
  replace B := B.below hb
  replace C := C.below hb
  replace D := D.below hb
  replace hB := hB.trans (hb.mono hB.size)
  have s2 := hb.size
  obtain ⟨x2, z2, rfl⟩ := O2.shape
  clear hb ht2
  have p3 := B.cell 3 _ rfl
  have d2 := D.cell 2 _ rfl
  have f2 := D.frozen 2
  go_wp2_with fail
  clear p3 d2 f2
  have U2 := (Out.refl [w.heap.size + 1, w.heap.size + 1 + 1] y2).set (b := w.heap.size + 1 + 1) (j := 2) (u := .slice x2 q2.length z2) (by simp)
  replace U1 := U1.set (b := w.heap.size + 1 + 1) (j := 2) (u := .slice x2 q2.length z2) (by simp)
  replace D := D.set 2 (.slice x2 q2.length z2)
  replace B := B.other (b' := w.heap.size + 1 + 1) (by omega) 2 (.slice x2 q2.length z2)
  replace C := C.other (b' := w.heap.size + 1 + 1) (by omega) 2 (.slice x2 q2.length z2)
  replace hB := hB.setCell (p := ⟨w.heap.size + 1 + 1, 2, none⟩) (by show w.heap.size ≤ w.heap.size + 1 + 1; omega) (.slice x2 q2.length z2)
  simp only [pjE] at D
  have t2 := U2.size
  generalize y2.setCell ⟨w.heap.size + 1 + 1, 2, none⟩ (.slice x2 q2.length z2) = V2 at *
  refine (ht3 V2 (h_3.below hB)).mono ?_
  rintro e y3 ⟨v3, rfl, O3, N3, G3, hb⟩
  replace U1 := U1.call hb
  replace U2 := U2.call hb
  replace B := B.below hb
  replace C := C.below hb
  replace D := D.below hb
  replace hB := hB.trans (hb.mono hB.size)
  have s3 := hb.size
  obtain ⟨x3, z3, rfl⟩ := O3.shape
  clear hb ht3
  clear B
  have d0 := D.cell 0 _ rfl
  have f0 := D.frozen 0
  have c0 := C.cell 0 _ rfl
  have g0 := C.frozen 0
  have d1 := D.cell 1 _ rfl
  have f1 := D.frozen 1
  have c1 := C.cell 1 _ rfl
  have g1 := C.frozen 1
  have d2 := D.cell 2 _ rfl
  have f2 := D.frozen 2
  have c2 := C.cell 2 _ rfl
  have g2 := C.frozen 2
  have d3 := D.cell 3 _ rfl
  have f3 := D.frozen 3
  have c3 := C.cell 3 _ rfl
  have g3 := C.frozen 3
  have R : Hid (∀ j u j' u' j'' u'' j''' u''' j'''' u'''', instK.own (((((y3.setCell ⟨w.heap.size + 1 + 1, j, none⟩ u).setCell ⟨w.heap.size + 1, j', none⟩ u').setCell ⟨w.heap.size + 1, j'', none⟩ u'').setCell ⟨w.heap.size + 1, j''', none⟩ u''').setCell ⟨w.heap.size + 1, j'''', none⟩ u'''') ⟨has, .slice x1 q1.length z1, q1, .slice x2 q2.length z2, q2, .slice x3 dec.length z3, dec⟩ ∧ Below w.heap.size w (((((y3.setCell ⟨w.heap.size + 1 + 1, j, none⟩ u).setCell ⟨w.heap.size + 1, j', none⟩ u').setCell ⟨w.heap.size + 1, j'', none⟩ u'').setCell ⟨w.heap.size + 1, j''', none⟩ u''').setCell ⟨w.heap.size + 1, j'''', none⟩ u'''')) := by
    intro j u j' u' j'' u'' j''' u''' j'''' u''''
    have X1 := (((((U1.set (b := w.heap.size + 1 + 1) (j := j) (u := u) (by simp)).set (b := w.heap.size + 1) (j := j') (u := u') (by simp)).set (b := w.heap.size + 1) (j := j'') (u := u'') (by simp)).set (b := w.heap.size + 1) (j := j''') (u := u''') (by simp)).set (b := w.heap.size + 1) (j := j'''') (u := u'''') (by simp))
    have X2 := (((((U2.set (b := w.heap.size + 1 + 1) (j := j) (u := u) (by simp)).set (b := w.heap.size + 1) (j := j') (u := u') (by simp)).set (b := w.heap.size + 1) (j := j'') (u := u'') (by simp)).set (b := w.heap.size + 1) (j := j''') (u := u''') (by simp)).set (b := w.heap.size + 1) (j := j'''') (u := u'''') (by simp))
    have X3 := ((((((Out.refl [w.heap.size + 1, w.heap.size + 1 + 1] y3).set (b := w.heap.size + 1 + 1) (j := j) (u := u) (by simp)).set (b := w.heap.size + 1) (j := j') (u := u') (by simp)).set (b := w.heap.size + 1) (j := j'') (u := u'') (by simp)).set (b := w.heap.size + 1) (j := j''') (u := u''') (by simp)).set (b := w.heap.size + 1) (j := j'''') (u := u'''') (by simp))
    refine ⟨⟨O1.out X1 (fun k hk => ?_), O2.out X2 (fun k hk => ?_), O3.out X3 (fun k hk => ?_)⟩, ?_⟩
    · have := G1 k hk
      simp only [List.mem_cons, List.not_mem_nil, or_false]; omega
    · have := G2 k hk
      simp only [List.mem_cons, List.not_mem_nil, or_false]; omega
    · have := G3 k hk
      simp only [List.mem_cons, List.not_mem_nil, or_false]; omega
    · exact (((((hB.setCell (p := ⟨w.heap.size + 1 + 1, j, none⟩) (by show w.heap.size ≤ w.heap.size + 1 + 1; omega) u).setCell (p := ⟨w.heap.size + 1, j', none⟩) (by show w.heap.size ≤ w.heap.size + 1; omega) u').setCell (p := ⟨w.heap.size + 1, j'', none⟩) (by show w.heap.size ≤ w.heap.size + 1; omega) u'').setCell (p := ⟨w.heap.size + 1, j''', none⟩) (by show w.heap.size ≤ w.heap.size + 1; omega) u''').setCell (p := ⟨w.heap.size + 1, j'''', none⟩) (by show w.heap.size ≤ w.heap.size + 1; omega) u'''')
  have R1 : Hid ((instK.foot ⟨has, .slice x1 q1.length z1, q1, .slice x2 q2.length z2, q2, .slice x3 dec.length z3, dec⟩).Nodup ∧ (∀ k ∈ instK.foot ⟨has, .slice x1 q1.length z1, q1, .slice x2 q2.length z2, q2, .slice x3 dec.length z3, dec⟩, w.heap.size ≤ k)) := by
    have L1 := O1.lt
    have L2 := O2.lt
    have L3 := O3.lt
    have T1 := U1.size
    have T2 := U2.size
    refine ⟨?_, ?_⟩
    · show List.Nodup (_ ++ _)
      exact List.nodup_append.2 ⟨N1, List.nodup_append.2 ⟨N2, N3, apart_of (m := (V2).heap.size) (fun k hk => by have := L2 k hk; omega) (fun k hk => by have := G3 k hk; omega)⟩, apart_of (m := (V1).heap.size) (fun k hk => by have := L1 k hk; omega) (fun k hk => by rcases List.mem_append.1 hk with hk | hk <;> first | (have := G2 k hk; omega) | (have := G3 k hk; omega))⟩
    · exact (fun k hk => by rcases List.mem_append.1 hk with hk | hk <;> first | (have := G1 k hk; omega) | (rcases List.mem_append.1 hk with hk | hk <;> first | (have := G2 k hk; omega) | (have := G3 k hk; omega)))
  have R2 : Hid (InstQ.e ⟨has, .slice x1 q1.length z1, q1, .slice x2 q2.length z2, q2, .slice x3 dec.length z3, dec⟩ = InstQ.e ⟨has, .slice a1 batch.length k1, batch, .slice a2 rounds.length k2, rounds, .slice a3 dec.length k3, dec⟩) := show _ = _ by simp only [InstQ.e, E1, E2]
  clear O1 N1 G1 O2 N2 G2 O3 N3 G3 U1 U2 E1 E2 hB C D h_1 h_2 h_3
  go_wp2
  exact bodyPost_ret (v := .agg #[.bool has, .slice x1 q1.length z1, .slice x2 q2.length z2, .slice x3 dec.length z3]) (by simp [results, Try.results59, go_sem, c0, c1, c2, c3]) rfl ⟨⟨has, .slice x1 q1.length z1, q1, .slice x2 q2.length z2, q2, .slice x3 dec.length z3, dec⟩, rfl, R2.out, (R.out _ _ _ _ _ _ _ _ _ _).1, R1.out.1, R1.out.2, (R.out _ _ _ _ _ _ _ _ _ _).2⟩

end Go.Proofs.Ytkkdjgiencilbaa

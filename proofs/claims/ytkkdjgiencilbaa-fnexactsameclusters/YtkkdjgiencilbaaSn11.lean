/- SameNodes, of the program and of the model. No condition. -/
import Derived.Test.YtkkdjgiencilbaaSr9b
import Derived.Test.YtkkdjgiencilbaaNd11
namespace Go.Proofs.Ytkkdjgiencilbaa
open Go.RowKit
open Go.BigFrame
set_option linter.unusedVariables false
set_option linter.unusedSimpArgs false

set_option maxHeartbeats 4000000 in
theorem l9Same_n2 (kn_p sf_p kn_q sf_q : Int) (b b' : Nat) (p q : RepQ) (w : World) (hP : Blk w b 79 #[.int .i64 kn_p, .int .i64 sf_p, p.vd, p.vb, p.vt, p.vu, p.vn]) (hQ : Blk w b' 79 #[.int .i64 kn_q, .int .i64 sf_q, q.vd, q.vb, q.vt, q.vu, q.vn]) (h : repK.rd w p) (h' : repK.rd w q) (hl : p.n ≤ 1048576) (hl' : q.n ≤ 1048576) :
    Calls Try.prog 81 #[.pointer (some ⟨b, 2, none⟩), .pointer (some ⟨b', 2, none⟩)] w fun e w' => e = .returned (.bool (sameRep p.e q.e)) ∧ Below w.heap.size w w' := by
  obtain ⟨pvd, pd, pvb, pb, pvt, pt, pvu, pu, pvn, pn⟩ := p
  obtain ⟨p0, p5, rfl⟩ : ∃ a c, pvd = .slice a pd.length c := h.1.shape
  obtain ⟨p1, p6, rfl⟩ : ∃ a c, pvb = .slice a pb.length c := h.2.1.shape
  obtain ⟨p2, p7, rfl⟩ : ∃ a c, pvt = .slice a pt.length c := h.2.2.1.shape
  obtain ⟨p3, p8, rfl⟩ : ∃ a c, pvu = .slice a pu.length c := h.2.2.2.1.shape
  obtain ⟨p4, p9, rfl⟩ : ∃ a c, pvn = .slice a pn.length c := h.2.2.2.2.shape
  obtain ⟨qvd, qd, qvb, qb, qvt, qt, qvu, qu, qvn, qn⟩ := q
  obtain ⟨q0, q5, rfl⟩ : ∃ a c, qvd = .slice a qd.length c := h'.1.shape
  obtain ⟨q1, q6, rfl⟩ : ∃ a c, qvb = .slice a qb.length c := h'.2.1.shape
  obtain ⟨q2, q7, rfl⟩ : ∃ a c, qvt = .slice a qt.length c := h'.2.2.1.shape
  obtain ⟨q3, q8, rfl⟩ : ∃ a c, qvu = .slice a qu.length c := h'.2.2.2.1.shape
  obtain ⟨q4, q9, rfl⟩ : ∃ a c, qvn = .slice a qn.length c := h'.2.2.2.2.shape
  dsimp only [RepQ.n] at hl hl'
  have c0 := fun w h h' => specSameTxns_any (.slice p0 pd.length p5) (.slice q0 qd.length q5) (pd.map TxnQ.e) (qd.map TxnQ.e) w (txnsAt_of' h) (txnsAt_of' h') (by rw [List.length_map, sumA_of']; omega) (by rw [List.length_map, sumA_of']; omega)
  have c1 := fun w h h' => specSameItems_any p1 q1 p6 q6 pb qb w h h' (by omega) (by omega)
  have c2 := fun w h h' => specSameTxns_any (.slice p2 pt.length p7) (.slice q2 qt.length q7) (pt.map TxnQ.e) (qt.map TxnQ.e) w (txnsAt_of' h) (txnsAt_of' h') (by rw [List.length_map, sumA_of']; omega) (by rw [List.length_map, sumA_of']; omega)
  have c3 := fun w h h' => l9SameUndos_any (.slice p3 pu.length p8) (.slice q3 qu.length q8) pu qu w h h' (by omega) (by omega)
  have c4 := fun w h h' => specSameItems_any p4 q4 p9 q9 pn qn w h h' (by omega) (by omega)
  obtain ⟨r0, r1, r2, r3, r4⟩ : txnK.At w (.slice p0 pd.length p5) pd ∧ itemK.At w (.slice p1 pb.length p6) pb ∧ txnK.At w (.slice p2 pt.length p7) pt ∧ ussK.At w (.slice p3 pu.length p8) pu ∧ itemK.At w (.slice p4 pn.length p9) pn := h
  obtain ⟨s0, s1, s2, s3, s4⟩ : txnK.At w (.slice q0 qd.length q5) qd ∧ itemK.At w (.slice q1 qb.length q6) qb ∧ txnK.At w (.slice q2 qt.length q7) qt ∧ ussK.At w (.slice q3 qu.length q8) qu ∧ itemK.At w (.slice q4 qn.length q9) qn := h'
  replace r1 := (itemK_at r1).2
  replace r4 := (itemK_at r4).2
  replace s1 := (itemK_at s1).2
  replace s4 := (itemK_at s4).2
  have E : Hid (sameRep ⟨pd.map TxnQ.e, pb, pt.map TxnQ.e, pu.map USQ.e, pn⟩ ⟨qd.map TxnQ.e, qb, qt.map TxnQ.e, qu.map USQ.e, qn⟩ = (sameTs (pd.map TxnQ.e) (qd.map TxnQ.e) && (sameIs pb qb && (sameTs (pt.map TxnQ.e) (qt.map TxnQ.e) && (sameUss (pu.map USQ.e) (qu.map USQ.e) && sameIs pn qn))))) := show _ = _ from rfl
  dsimp only [RepQ.e]
  generalize sameTs (pd.map TxnQ.e) (qd.map TxnQ.e) = X0 at *
  generalize sameIs pb qb = X1 at *
  generalize sameTs (pt.map TxnQ.e) (qt.map TxnQ.e) = X2 at *
  generalize sameUss (pu.map USQ.e) (qu.map USQ.e) = X3 at *
  generalize sameIs pn qn = X4 at *
  generalize sameRep ⟨pd.map TxnQ.e, pb, pt.map TxnQ.e, pu.map USQ.e, pn⟩ ⟨qd.map TxnQ.e, qb, qt.map TxnQ.e, qu.map USQ.e, qn⟩ = S at *
  have f0 := hP.lat 2 _ rfl
  have g0 := hQ.lat 2 _ rfl
  have f1 := hP.lat 3 _ rfl
  have g1 := hQ.lat 3 _ rfl
  have f2 := hP.lat 4 _ rfl
  have g2 := hQ.lat 4 _ rfl
  have f3 := hP.lat 5 _ rfl
  have g3 := hQ.lat 5 _ rfl
  have f4 := hP.lat 6 _ rfl
  have g4 := hQ.lat 6 _ rfl
  have hW : Below w.heap.size w w.drew := (Below.refl _ _).drew
  have hnn : Nonempty (Lat w) := ⟨⟨w, Below.refl _ _⟩⟩
  go_enter Try.func81, Try.ntmps81
  go_wp2_with fail
  refine text_begin (S := fun w' => ∃ u : Lat w, w' = u.val) (by kernel_rfl) ?_
  cases X0 with
  | false =>
    refine sgr [(0, 8)] 46 (by kernel_rfl) ⟨⟨_, hW⟩, rfl⟩ ?_
    simp only [pkE]
    repeat go_big_quiet_step (fail)
    refine wpQuiet_nil ?_
    refine cla 8 (some 13) 102 #[.slice p0 pd.length p5, .slice q0 qd.length q5] 45 (by kernel_rfl) ?_
    refine (c0 _ (r0.below hW) (s0.below hW)).mono ?_
    rintro e w9 ⟨rfl, hb9⟩
    replace hW := hW.trans (hb9.mono hW.size)
    clear hb9
    refine ⟨_, rfl, ⟨⟨_, hW⟩, rfl⟩, ?_⟩
    simp only [Act.put, pjE]
    refine sgr [(9, 9)] 36 (by kernel_rfl) ⟨⟨_, hW⟩, rfl⟩ ?_
    simp only [pkE]
    repeat go_big_quiet_step (fail)
    refine wpQuiet_nil ?_
    refine ska 18 (some 23) 35 (by kernel_rfl) ⟨⟨_, hW⟩, rfl⟩ ?_
    simp only [Act.put, pjE]
    refine sgr [(19, 10)] 25 (by kernel_rfl) ⟨⟨_, hW⟩, rfl⟩ ?_
    simp only [pkE]
    repeat go_big_quiet_step (fail)
    refine wpQuiet_nil ?_
    refine ska 29 (some 34) 24 (by kernel_rfl) ⟨⟨_, hW⟩, rfl⟩ ?_
    simp only [Act.put, pjE]
    refine sgr [(30, 10)] 14 (by kernel_rfl) ⟨⟨_, hW⟩, rfl⟩ ?_
    simp only [pkE]
    repeat go_big_quiet_step (fail)
    refine wpQuiet_nil ?_
    refine ska 40 (some 45) 13 (by kernel_rfl) ⟨⟨_, hW⟩, rfl⟩ ?_
    simp only [Act.put, pjE]
    refine sgr [(41, 10)] 3 (by kernel_rfl) ⟨⟨_, hW⟩, rfl⟩ ?_
    simp only [pkE]
    repeat go_big_quiet_step (fail)
    refine wpQuiet_nil ?_
    refine ska 51 (some 56) 2 (by kernel_rfl) ⟨⟨_, hW⟩, rfl⟩ ?_
    simp only [Act.put, pjE]
    refine sgr [(52, 2)] 0 (by kernel_rfl) ⟨⟨_, hW⟩, rfl⟩ ?_
    simp only [pkE]
    repeat go_big_quiet_step (fail)
    refine wpQuiet_nil ?_
    refine text_end (by kernel_rfl) ?_
    go_wp2
    go_ret
    exact ⟨by rw [E.out]; simp, hW⟩
  | true =>
    cases X2 with
    | false =>
      refine sgr [(0, 8)] 46 (by kernel_rfl) ⟨⟨_, hW⟩, rfl⟩ ?_
      simp only [pkE]
      repeat go_big_quiet_step (fail)
      refine wpQuiet_nil ?_
      refine cla 8 (some 13) 102 #[.slice p0 pd.length p5, .slice q0 qd.length q5] 45 (by kernel_rfl) ?_
      refine (c0 _ (r0.below hW) (s0.below hW)).mono ?_
      rintro e w9 ⟨rfl, hb9⟩
      replace hW := hW.trans (hb9.mono hW.size)
      clear hb9
      refine ⟨_, rfl, ⟨⟨_, hW⟩, rfl⟩, ?_⟩
      simp only [Act.put, pjE]
      refine sgr [(9, 9)] 36 (by kernel_rfl) ⟨⟨_, hW⟩, rfl⟩ ?_
      simp only [pkE]
      repeat go_big_quiet_step (fail)
      refine wpQuiet_nil ?_
      refine cla 18 (some 23) 102 #[.slice p2 pt.length p7, .slice q2 qt.length q7] 35 (by kernel_rfl) ?_
      refine (c2 _ (r2.below hW) (s2.below hW)).mono ?_
      rintro e w9 ⟨rfl, hb9⟩
      replace hW := hW.trans (hb9.mono hW.size)
      clear hb9
      refine ⟨_, rfl, ⟨⟨_, hW⟩, rfl⟩, ?_⟩
      simp only [Act.put, pjE]
      refine sgr [(19, 10)] 25 (by kernel_rfl) ⟨⟨_, hW⟩, rfl⟩ ?_
      simp only [pkE]
      repeat go_big_quiet_step (fail)
      refine wpQuiet_nil ?_
      refine ska 29 (some 34) 24 (by kernel_rfl) ⟨⟨_, hW⟩, rfl⟩ ?_
      simp only [Act.put, pjE]
      refine sgr [(30, 10)] 14 (by kernel_rfl) ⟨⟨_, hW⟩, rfl⟩ ?_
      simp only [pkE]
      repeat go_big_quiet_step (fail)
      refine wpQuiet_nil ?_
      refine ska 40 (some 45) 13 (by kernel_rfl) ⟨⟨_, hW⟩, rfl⟩ ?_
      simp only [Act.put, pjE]
      refine sgr [(41, 10)] 3 (by kernel_rfl) ⟨⟨_, hW⟩, rfl⟩ ?_
      simp only [pkE]
      repeat go_big_quiet_step (fail)
      refine wpQuiet_nil ?_
      refine ska 51 (some 56) 2 (by kernel_rfl) ⟨⟨_, hW⟩, rfl⟩ ?_
      simp only [Act.put, pjE]
      refine sgr [(52, 2)] 0 (by kernel_rfl) ⟨⟨_, hW⟩, rfl⟩ ?_
      simp only [pkE]
      repeat go_big_quiet_step (fail)
      refine wpQuiet_nil ?_
      refine text_end (by kernel_rfl) ?_
      go_wp2
      go_ret
      exact ⟨by rw [E.out]; simp, hW⟩
    | true =>
      cases X1 with
      | false =>
        refine sgr [(0, 8)] 46 (by kernel_rfl) ⟨⟨_, hW⟩, rfl⟩ ?_
        simp only [pkE]
        repeat go_big_quiet_step (fail)
        refine wpQuiet_nil ?_
        refine cla 8 (some 13) 102 #[.slice p0 pd.length p5, .slice q0 qd.length q5] 45 (by kernel_rfl) ?_
        refine (c0 _ (r0.below hW) (s0.below hW)).mono ?_
        rintro e w9 ⟨rfl, hb9⟩
        replace hW := hW.trans (hb9.mono hW.size)
        clear hb9
        refine ⟨_, rfl, ⟨⟨_, hW⟩, rfl⟩, ?_⟩
        simp only [Act.put, pjE]
        refine sgr [(9, 9)] 36 (by kernel_rfl) ⟨⟨_, hW⟩, rfl⟩ ?_
        simp only [pkE]
        repeat go_big_quiet_step (fail)
        refine wpQuiet_nil ?_
        refine cla 18 (some 23) 102 #[.slice p2 pt.length p7, .slice q2 qt.length q7] 35 (by kernel_rfl) ?_
        refine (c2 _ (r2.below hW) (s2.below hW)).mono ?_
        rintro e w9 ⟨rfl, hb9⟩
        replace hW := hW.trans (hb9.mono hW.size)
        clear hb9
        refine ⟨_, rfl, ⟨⟨_, hW⟩, rfl⟩, ?_⟩
        simp only [Act.put, pjE]
        refine sgr [(19, 10)] 25 (by kernel_rfl) ⟨⟨_, hW⟩, rfl⟩ ?_
        simp only [pkE]
        repeat go_big_quiet_step (fail)
        refine wpQuiet_nil ?_
        refine cla 29 (some 34) 104 #[.slice p1 pb.length p6, .slice q1 qb.length q6] 24 (by kernel_rfl) ?_
        refine (c1 _ (r1.below hW) (s1.below hW)).mono ?_
        rintro e w9 ⟨rfl, hb9⟩
        replace hW := hW.trans (hb9.mono hW.size)
        clear hb9
        refine ⟨_, rfl, ⟨⟨_, hW⟩, rfl⟩, ?_⟩
        simp only [Act.put, pjE]
        refine sgr [(30, 10)] 14 (by kernel_rfl) ⟨⟨_, hW⟩, rfl⟩ ?_
        simp only [pkE]
        repeat go_big_quiet_step (fail)
        refine wpQuiet_nil ?_
        refine ska 40 (some 45) 13 (by kernel_rfl) ⟨⟨_, hW⟩, rfl⟩ ?_
        simp only [Act.put, pjE]
        refine sgr [(41, 10)] 3 (by kernel_rfl) ⟨⟨_, hW⟩, rfl⟩ ?_
        simp only [pkE]
        repeat go_big_quiet_step (fail)
        refine wpQuiet_nil ?_
        refine ska 51 (some 56) 2 (by kernel_rfl) ⟨⟨_, hW⟩, rfl⟩ ?_
        simp only [Act.put, pjE]
        refine sgr [(52, 2)] 0 (by kernel_rfl) ⟨⟨_, hW⟩, rfl⟩ ?_
        simp only [pkE]
        repeat go_big_quiet_step (fail)
        refine wpQuiet_nil ?_
        refine text_end (by kernel_rfl) ?_
        go_wp2
        go_ret
        exact ⟨by rw [E.out]; simp, hW⟩
      | true =>
        cases X4 with
        | false =>
          refine sgr [(0, 8)] 46 (by kernel_rfl) ⟨⟨_, hW⟩, rfl⟩ ?_
          simp only [pkE]
          repeat go_big_quiet_step (fail)
          refine wpQuiet_nil ?_
          refine cla 8 (some 13) 102 #[.slice p0 pd.length p5, .slice q0 qd.length q5] 45 (by kernel_rfl) ?_
          refine (c0 _ (r0.below hW) (s0.below hW)).mono ?_
          rintro e w9 ⟨rfl, hb9⟩
          replace hW := hW.trans (hb9.mono hW.size)
          clear hb9
          refine ⟨_, rfl, ⟨⟨_, hW⟩, rfl⟩, ?_⟩
          simp only [Act.put, pjE]
          refine sgr [(9, 9)] 36 (by kernel_rfl) ⟨⟨_, hW⟩, rfl⟩ ?_
          simp only [pkE]
          repeat go_big_quiet_step (fail)
          refine wpQuiet_nil ?_
          refine cla 18 (some 23) 102 #[.slice p2 pt.length p7, .slice q2 qt.length q7] 35 (by kernel_rfl) ?_
          refine (c2 _ (r2.below hW) (s2.below hW)).mono ?_
          rintro e w9 ⟨rfl, hb9⟩
          replace hW := hW.trans (hb9.mono hW.size)
          clear hb9
          refine ⟨_, rfl, ⟨⟨_, hW⟩, rfl⟩, ?_⟩
          simp only [Act.put, pjE]
          refine sgr [(19, 10)] 25 (by kernel_rfl) ⟨⟨_, hW⟩, rfl⟩ ?_
          simp only [pkE]
          repeat go_big_quiet_step (fail)
          refine wpQuiet_nil ?_
          refine cla 29 (some 34) 104 #[.slice p1 pb.length p6, .slice q1 qb.length q6] 24 (by kernel_rfl) ?_
          refine (c1 _ (r1.below hW) (s1.below hW)).mono ?_
          rintro e w9 ⟨rfl, hb9⟩
          replace hW := hW.trans (hb9.mono hW.size)
          clear hb9
          refine ⟨_, rfl, ⟨⟨_, hW⟩, rfl⟩, ?_⟩
          simp only [Act.put, pjE]
          refine sgr [(30, 10)] 14 (by kernel_rfl) ⟨⟨_, hW⟩, rfl⟩ ?_
          simp only [pkE]
          repeat go_big_quiet_step (fail)
          refine wpQuiet_nil ?_
          refine cla 40 (some 45) 104 #[.slice p4 pn.length p9, .slice q4 qn.length q9] 13 (by kernel_rfl) ?_
          refine (c4 _ (r4.below hW) (s4.below hW)).mono ?_
          rintro e w9 ⟨rfl, hb9⟩
          replace hW := hW.trans (hb9.mono hW.size)
          clear hb9
          refine ⟨_, rfl, ⟨⟨_, hW⟩, rfl⟩, ?_⟩
          simp only [Act.put, pjE]
          refine sgr [(41, 10)] 3 (by kernel_rfl) ⟨⟨_, hW⟩, rfl⟩ ?_
          simp only [pkE]
          repeat go_big_quiet_step (fail)
          refine wpQuiet_nil ?_
          refine ska 51 (some 56) 2 (by kernel_rfl) ⟨⟨_, hW⟩, rfl⟩ ?_
          simp only [Act.put, pjE]
          refine sgr [(52, 2)] 0 (by kernel_rfl) ⟨⟨_, hW⟩, rfl⟩ ?_
          simp only [pkE]
          repeat go_big_quiet_step (fail)
          refine wpQuiet_nil ?_
          refine text_end (by kernel_rfl) ?_
          go_wp2
          go_ret
          exact ⟨by rw [E.out]; simp, hW⟩
        | true =>
          refine sgr [(0, 8)] 46 (by kernel_rfl) ⟨⟨_, hW⟩, rfl⟩ ?_
          simp only [pkE]
          repeat go_big_quiet_step (fail)
          refine wpQuiet_nil ?_
          refine cla 8 (some 13) 102 #[.slice p0 pd.length p5, .slice q0 qd.length q5] 45 (by kernel_rfl) ?_
          refine (c0 _ (r0.below hW) (s0.below hW)).mono ?_
          rintro e w9 ⟨rfl, hb9⟩
          replace hW := hW.trans (hb9.mono hW.size)
          clear hb9
          refine ⟨_, rfl, ⟨⟨_, hW⟩, rfl⟩, ?_⟩
          simp only [Act.put, pjE]
          refine sgr [(9, 9)] 36 (by kernel_rfl) ⟨⟨_, hW⟩, rfl⟩ ?_
          simp only [pkE]
          repeat go_big_quiet_step (fail)
          refine wpQuiet_nil ?_
          refine cla 18 (some 23) 102 #[.slice p2 pt.length p7, .slice q2 qt.length q7] 35 (by kernel_rfl) ?_
          refine (c2 _ (r2.below hW) (s2.below hW)).mono ?_
          rintro e w9 ⟨rfl, hb9⟩
          replace hW := hW.trans (hb9.mono hW.size)
          clear hb9
          refine ⟨_, rfl, ⟨⟨_, hW⟩, rfl⟩, ?_⟩
          simp only [Act.put, pjE]
          refine sgr [(19, 10)] 25 (by kernel_rfl) ⟨⟨_, hW⟩, rfl⟩ ?_
          simp only [pkE]
          repeat go_big_quiet_step (fail)
          refine wpQuiet_nil ?_
          refine cla 29 (some 34) 104 #[.slice p1 pb.length p6, .slice q1 qb.length q6] 24 (by kernel_rfl) ?_
          refine (c1 _ (r1.below hW) (s1.below hW)).mono ?_
          rintro e w9 ⟨rfl, hb9⟩
          replace hW := hW.trans (hb9.mono hW.size)
          clear hb9
          refine ⟨_, rfl, ⟨⟨_, hW⟩, rfl⟩, ?_⟩
          simp only [Act.put, pjE]
          refine sgr [(30, 10)] 14 (by kernel_rfl) ⟨⟨_, hW⟩, rfl⟩ ?_
          simp only [pkE]
          repeat go_big_quiet_step (fail)
          refine wpQuiet_nil ?_
          refine cla 40 (some 45) 104 #[.slice p4 pn.length p9, .slice q4 qn.length q9] 13 (by kernel_rfl) ?_
          refine (c4 _ (r4.below hW) (s4.below hW)).mono ?_
          rintro e w9 ⟨rfl, hb9⟩
          replace hW := hW.trans (hb9.mono hW.size)
          clear hb9
          refine ⟨_, rfl, ⟨⟨_, hW⟩, rfl⟩, ?_⟩
          simp only [Act.put, pjE]
          refine sgr [(41, 10)] 3 (by kernel_rfl) ⟨⟨_, hW⟩, rfl⟩ ?_
          simp only [pkE]
          repeat go_big_quiet_step (fail)
          refine wpQuiet_nil ?_
          refine cla 51 (some 56) 105 #[.slice p3 pu.length p8, .slice q3 qu.length q8] 2 (by kernel_rfl) ?_
          refine (c3 _ (r3.below hW) (s3.below hW)).mono ?_
          rintro e w9 ⟨rfl, hb9⟩
          replace hW := hW.trans (hb9.mono hW.size)
          clear hb9
          refine ⟨_, rfl, ⟨⟨_, hW⟩, rfl⟩, ?_⟩
          simp only [Act.put, pjE]
          refine sgr [(52, 2)] 0 (by kernel_rfl) ⟨⟨_, hW⟩, rfl⟩ ?_
          simp only [pkE]
          repeat go_big_quiet_step (fail)
          refine wpQuiet_nil ?_
          refine text_end (by kernel_rfl) ?_
          go_wp2
          go_ret
          exact ⟨by rw [E.out]; simp, hW⟩


def sameN (kn sf : Int) (x : RepE) (kn' sf' : Int) (y : RepE) : Bool := (kn == kn') && ((sf == sf') && sameRep x y)

set_option maxRecDepth 100000 in
set_option maxHeartbeats 4000000 in
theorem l11Same_any (b b' : Nat) (kn sf : Int) (p : RepQ) (kn' sf' : Int) (q : RepQ) (w : World) (hP : Blk w b 79 #[.int .i64 kn, .int .i64 sf, p.vd, p.vb, p.vt, p.vu, p.vn]) (hQ : Blk w b' 79 #[.int .i64 kn', .int .i64 sf', q.vd, q.vb, q.vt, q.vu, q.vn]) (h : repK.rd w p) (h' : repK.rd w q) (hl : p.n ≤ 1048576) (hl' : q.n ≤ 1048576) :
    Calls Try.prog 58 #[.pointer (some ⟨b, 0, none⟩), .pointer (some ⟨b', 0, none⟩)] w fun e w' => e = .returned (.bool (sameN kn sf p.e kn' sf' q.e)) ∧ Below w.heap.size w w' := by
  have hs := fun w hP hQ h h' => l9Same_n2 kn sf kn' sf' b b' p q w hP hQ h h' hl hl'
  have hr := fun (w' : World) hb => repK.rd_below (w' := w') h hb
  have hr' := fun (w' : World) hb => repK.rd_below (w' := w') h' hb
  unfold sameN
  generalize sameRep p.e q.e = S at *
  obtain ⟨vd, done, vb, base, vt, tent, vu, undos, vn, now⟩ := p
  obtain ⟨a0, k0, rfl⟩ : ∃ a c, vd = .slice a done.length c := h.1.shape
  obtain ⟨a1, k1, rfl⟩ : ∃ a c, vb = .slice a base.length c := h.2.1.shape
  obtain ⟨a2, k2, rfl⟩ : ∃ a c, vt = .slice a tent.length c := h.2.2.1.shape
  obtain ⟨a3, k3, rfl⟩ : ∃ a c, vu = .slice a undos.length c := h.2.2.2.1.shape
  obtain ⟨a4, k4, rfl⟩ : ∃ a c, vn = .slice a now.length c := h.2.2.2.2.shape
  obtain ⟨vd', done', vb', base', vt', tent', vu', undos', vn', now'⟩ := q
  obtain ⟨a0', k0', rfl⟩ : ∃ a c, vd' = .slice a done'.length c := h'.1.shape
  obtain ⟨a1', k1', rfl⟩ : ∃ a c, vb' = .slice a base'.length c := h'.2.1.shape
  obtain ⟨a2', k2', rfl⟩ : ∃ a c, vt' = .slice a tent'.length c := h'.2.2.1.shape
  obtain ⟨a3', k3', rfl⟩ : ∃ a c, vu' = .slice a undos'.length c := h'.2.2.2.1.shape
  obtain ⟨a4', k4', rfl⟩ : ∃ a c, vn' = .slice a now'.length c := h'.2.2.2.2.shape
  dsimp only at hs hP hQ
  obtain ⟨c0, c1, c2, c3, c4, c5, c6⟩ := hP.lts7
  obtain ⟨d0, d1, d2, d3, d4, d5, d6⟩ := hQ.lts7
  have HS : Hid _ := hs
  have HR : Hid _ := hr
  have HR' : Hid _ := hr'
  clear hs hr hr' hl hl'
  by_cases hk : kn = kn'
  case neg =>
    have ek : (kn == kn') = false := by simpa using hk
    have HE : Hid (((kn == kn') && ((sf == sf') && S)) = false) := show _ = _ by rw [ek]; rfl
    clear hk
    go_enter Try.func58, Try.ntmps58
    go_wp2_with fail
    have hW : Below w.heap.size w w.drew := (Below.refl _ _).drew
    have hnn : Nonempty (Lat w) := ⟨⟨w, Below.refl _ _⟩⟩
    refine text_begin (S := fun w' => ∃ u : Lat w, w' = u.val) (by kernel_rfl) ?_
    refine sgr [(0, 27)] 3 (by kernel_rfl) ⟨⟨_, hW⟩, rfl⟩ ?_
    simp only [pkE]
    repeat go_big_quiet_step (fail)
    refine wpQuiet_nil ?_
    refine ska 27 (some 32) 2 (by kernel_rfl) ⟨⟨_, hW⟩, rfl⟩ ?_
    simp only [Act.put, pjE]
    refine sgr [(28, 2)] 0 (by kernel_rfl) ⟨⟨_, hW⟩, rfl⟩ ?_
    simp only [pkE]
    repeat go_big_quiet_step (fail)
    refine wpQuiet_nil ?_
    refine text_end (by kernel_rfl) ?_
    go_wp2
    go_ret
    exact ⟨by first | (rw [HE.out]; done) | (rw [HE.out]; rfl), hW⟩
  subst hk
  have ek : (kn == kn) = true := by simp
  by_cases hf : sf = sf'
  case neg =>
    have ef : (sf == sf') = false := by simpa using hf
    have HE : Hid (((kn == kn) && ((sf == sf') && S)) = false) := show _ = _ by rw [ek, ef]; rfl
    clear hf
    go_enter Try.func58, Try.ntmps58
    go_wp2_with fail
    have hW : Below w.heap.size w w.drew := (Below.refl _ _).drew
    have hnn : Nonempty (Lat w) := ⟨⟨w, Below.refl _ _⟩⟩
    refine text_begin (S := fun w' => ∃ u : Lat w, w' = u.val) (by kernel_rfl) ?_
    refine sgr [(0, 27)] 3 (by kernel_rfl) ⟨⟨_, hW⟩, rfl⟩ ?_
    simp only [pkE]
    repeat go_big_quiet_step (fail)
    refine wpQuiet_nil ?_
    refine ska 27 (some 32) 2 (by kernel_rfl) ⟨⟨_, hW⟩, rfl⟩ ?_
    simp only [Act.put, pjE]
    refine sgr [(28, 2)] 0 (by kernel_rfl) ⟨⟨_, hW⟩, rfl⟩ ?_
    simp only [pkE]
    repeat go_big_quiet_step (fail)
    refine wpQuiet_nil ?_
    refine text_end (by kernel_rfl) ?_
    go_wp2
    go_ret
    exact ⟨by first | (rw [HE.out]; done) | (rw [HE.out]; rfl), hW⟩
  subst hf
  have ef : (sf == sf) = true := by simp
  have HE : Hid (((kn == kn) && ((sf == sf) && S)) = S) := show _ = _ by rw [ek, ef]; rfl
  go_enter Try.func58, Try.ntmps58
  go_wp2_with fail
  have hW : Below w.heap.size w w.drew := (Below.refl _ _).drew
  have hnn : Nonempty (Lat w) := ⟨⟨w, Below.refl _ _⟩⟩
  refine text_begin (S := fun w' => ∃ u : Lat w, w' = u.val) (by kernel_rfl) ?_
  refine sgr [(0, 27)] 3 (by kernel_rfl) ⟨⟨_, hW⟩, rfl⟩ ?_
  simp only [pkE]
  repeat go_big_quiet_step (fail)
  refine wpQuiet_nil ?_
  refine cla 27 (some 32) 81 #[.pointer (some ⟨b, 2, none⟩), .pointer (some ⟨b', 2, none⟩)] 2 (by kernel_rfl) ?_
  refine (HS.out _ (hP.below hW) (hQ.below hW) (HR.out _ hW) (HR'.out _ hW)).mono ?_
  rintro e w9 ⟨rfl, hb9⟩
  replace hW := hW.trans (hb9.mono hW.size)
  clear hb9
  refine ⟨_, rfl, ⟨⟨_, hW⟩, rfl⟩, ?_⟩
  simp only [Act.put, pjE]
  refine sgr [(28, 2)] 0 (by kernel_rfl) ⟨⟨_, hW⟩, rfl⟩ ?_
  simp only [pkE]
  repeat go_big_quiet_step (fail)
  refine wpQuiet_nil ?_
  refine text_end (by kernel_rfl) ?_
  go_wp2
  go_ret
  exact ⟨by first | (rw [HE.out]; done) | (rw [HE.out]; rfl), hW⟩

end Go.Proofs.Ytkkdjgiencilbaa

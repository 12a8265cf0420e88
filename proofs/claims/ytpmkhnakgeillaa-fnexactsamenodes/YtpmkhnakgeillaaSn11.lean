/- SameNodes, of the program and of the model. No condition. -/
import Derived.Test.YtpmkhnakgeillaaSr9b
import Derived.Test.YtpmkhnakgeillaaNd11
namespace Go.Proofs.Ytpmkhnakgeillaa
open Go.RowKit
open Go.BigFrame
set_option linter.unusedVariables false
set_option linter.unusedSimpArgs false

set_option maxHeartbeats 4000000 in
theorem l9Same_n2 (kn_p sf_p kn_q sf_q : Int) (b b' : Nat) (p q : RepQ) (w : World) (hP : Blk w b 37 #[.int .i64 kn_p, .int .i64 sf_p, p.vd, p.vb, p.vt, p.vu, p.vn]) (hQ : Blk w b' 37 #[.int .i64 kn_q, .int .i64 sf_q, q.vd, q.vb, q.vt, q.vu, q.vn]) (h : repK.rd w p) (h' : repK.rd w q) (hl : p.n ≤ 1048576) (hl' : q.n ≤ 1048576) :
    Calls Try.prog 17 #[.pointer (some ⟨b, 2, none⟩), .pointer (some ⟨b', 2, none⟩)] w fun e w' => e = .returned (.bool (sameRep p.e q.e)) ∧ Below w.heap.size w w' := by
  obtain ⟨pvd, pd, pvb, pb, pvt, pt, pvu, pu, pvn, pn⟩ := p
  obtain ⟨p0, p5, rfl⟩ : ∃ a c, pvd = .slice a pd.length c := h.1.shape
  obtain ⟨p1, p6, rfl⟩ : ∃ a c, pvb = .slice a pb.length c := h.2.1.shape
  obtain ⟨p2, p7, rfl⟩ : ∃ a c, pvt = .slice a pt.length c := h.2.2.1.shape
  obtain ⟨p3, p8, rfl⟩ : ∃ a c, pvu = .slice a pu.length c := h.2.2.2.1.shape
  obtain ⟨p4, p9, rfl⟩ : ∃ a c, pvn = .slice a pn.length c := h.2.2.2.2.shape
  obtain ⟨qvd, qd, qvb, qb, qvt, qt, qvu, qu, qvn, qn⟩ := q
  obtain ⟨q0, q5, rfl⟩ : ∃ a c, qvd = .slice a qd.length c := h'.1.shape
  obtain ⟨q1, q6, rfl⟩ : ∃ a c, qvb = .slice a qb.length c := h'.2.1.shape
  obtain ⟨q2, q7, rfl⟩ : ∃ a c, qvt = .slice a qt.length c := h'.2.2.1.shape
  obtain ⟨q3, q8, rfl⟩ : ∃ a c, qvu = .slice a qu.length c := h'.2.2.2.1.shape
  obtain ⟨q4, q9, rfl⟩ : ∃ a c, qvn = .slice a qn.length c := h'.2.2.2.2.shape
  dsimp only [RepQ.n] at hl hl'
  have c0 := fun w h h' => specSameTxns_any (.slice p0 pd.length p5) (.slice q0 qd.length q5) (pd.map TxnQ.e) (qd.map TxnQ.e) w (txnsAt_of' h) (txnsAt_of' h') (by rw [List.length_map, sumA_of']; omega) (by rw [List.length_map, sumA_of']; omega)
  have c1 := fun w h h' => specSameItems_any p1 q1 p6 q6 pb qb w h h' (by omega) (by omega)
  have c2 := fun w h h' => specSameTxns_any (.slice p2 pt.length p7) (.slice q2 qt.length q7) (pt.map TxnQ.e) (qt.map TxnQ.e) w (txnsAt_of' h) (txnsAt_of' h') (by rw [List.length_map, sumA_of']; omega) (by rw [List.length_map, sumA_of']; omega)
  have c3 := fun w h h' => l9SameUndos_any (.slice p3 pu.length p8) (.slice q3 qu.length q8) pu qu w h h' (by omega) (by omega)
  have c4 := fun w h h' => specSameItems_any p4 q4 p9 q9 pn qn w h h' (by omega) (by omega)
  obtain ⟨r0, r1, r2, r3, r4⟩ : txnK.At w (.slice p0 pd.length p5) pd ∧ itemK.At w (.slice p1 pb.length p6) pb ∧ txnK.At w (.slice p2 pt.length p7) pt ∧ ussK.At w (.slice p3 pu.length p8) pu ∧ itemK.At w (.slice p4 pn.length p9) pn := h
  obtain ⟨s0, s1, s2, s3, s4⟩ : txnK.At w (.slice q0 qd.length q5) qd ∧ itemK.At w (.slice q1 qb.length q6) qb ∧ txnK.At w (.slice q2 qt.length q7) qt ∧ ussK.At w (.slice q3 qu.length q8) qu ∧ itemK.At w (.slice q4 qn.length q9) qn := h'
  replace r1 := (itemK_at r1).2
  replace r4 := (itemK_at r4).2
  replace s1 := (itemK_at s1).2
  replace s4 := (itemK_at s4).2
  have E : Hid (sameRep ⟨pd.map TxnQ.e, pb, pt.map TxnQ.e, pu.map USQ.e, pn⟩ ⟨qd.map TxnQ.e, qb, qt.map TxnQ.e, qu.map USQ.e, qn⟩ = (sameTs (pd.map TxnQ.e) (qd.map TxnQ.e) && (sameIs pb qb && (sameTs (pt.map TxnQ.e) (qt.map TxnQ.e) && (sameUss (pu.map USQ.e) (qu.map USQ.e) && sameIs pn qn))))) := show _ = _ from rfl
  dsimp only [RepQ.e]
  generalize sameTs (pd.map TxnQ.e) (qd.map TxnQ.e) = X0 at *
  generalize sameIs pb qb = X1 at *
  generalize sameTs (pt.map TxnQ.e) (qt.map TxnQ.e) = X2 at *
  generalize sameUss (pu.map USQ.e) (qu.map USQ.e) = X3 at *
  generalize sameIs pn qn = X4 at *
  generalize sameRep ⟨pd.map TxnQ.e, pb, pt.map TxnQ.e, pu.map USQ.e, pn⟩ ⟨qd.map TxnQ.e, qb, qt.map TxnQ.e, qu.map USQ.e, qn⟩ = S at *
  have f0 := hP.lat 2 _ rfl
  have g0 := hQ.lat 2 _ rfl
  have f1 := hP.lat 3 _ rfl
  have g1 := hQ.lat 3 _ rfl
  have f2 := hP.lat 4 _ rfl
  have g2 := hQ.lat 4 _ rfl
  have f3 := hP.lat 5 _ rfl
  have g3 := hQ.lat 5 _ rfl
  have f4 := hP.lat 6 _ rfl
  have g4 := hQ.lat 6 _ rfl
  have hW : Below w.heap.size w w.drew := (Below.refl _ _).drew
  have hnn : Nonempty (Lat w) := ⟨⟨w, Below.refl _ _⟩⟩
  go_enter Try.func17, Try.ntmps17
  go_wp2_with fail
  refine text_begin (S := fun w' => ∃ u : Lat w, w' = u.val) (by kernel_rfl) ?_
  cases X0 with
  | false =>
    refine seg_range [(0, 8)] 46 (by kernel_rfl) (by kernel_rfl) (by kernel_rfl) (by kernel_rfl) (by kernel_rfl) ⟨⟨_, hW⟩, rfl⟩ ?_
    simp only [pickR, List.toList_toArray, List.flatMap_cons, List.flatMap_nil, List.drop_succ_cons, List.drop_zero, List.take_succ_cons, List.take_zero, List.cons_append, List.nil_append, List.append_nil]
    repeat go_big_quiet_step (fail)
    refine wpQuiet_nil ?_
    refine call_at 8 (some 13) 30 #[.slice p0 pd.length p5, .slice q0 qd.length q5] 45 (by kernel_rfl) (by kernel_rfl) (by kernel_rfl) (by kernel_rfl) (by kernel_rfl) ?_
    refine (c0 _ (r0.below hW) (s0.below hW)).mono ?_
    rintro e w9 ⟨rfl, hb9⟩
    replace hW := hW.trans (hb9.mono hW.size)
    clear hb9
    refine ⟨_, rfl, ⟨⟨_, hW⟩, rfl⟩, ?_⟩
    simp only [Act.put, List.setIfInBounds_toArray, List.set_cons_zero, List.set_cons_succ]
    refine seg_range [(9, 9)] 36 (by kernel_rfl) (by kernel_rfl) (by kernel_rfl) (by kernel_rfl) (by kernel_rfl) ⟨⟨_, hW⟩, rfl⟩ ?_
    simp only [pickR, List.toList_toArray, List.flatMap_cons, List.flatMap_nil, List.drop_succ_cons, List.drop_zero, List.take_succ_cons, List.take_zero, List.cons_append, List.nil_append, List.append_nil]
    repeat go_big_quiet_step (fail)
    refine wpQuiet_nil ?_
    refine skip_at 18 (some 23) 35 (by kernel_rfl) (by kernel_rfl) (by kernel_rfl) (by kernel_rfl) (by kernel_rfl) ⟨⟨_, hW⟩, rfl⟩ ?_
    simp only [Act.put, List.setIfInBounds_toArray, List.set_cons_zero, List.set_cons_succ]
    refine seg_range [(19, 10)] 25 (by kernel_rfl) (by kernel_rfl) (by kernel_rfl) (by kernel_rfl) (by kernel_rfl) ⟨⟨_, hW⟩, rfl⟩ ?_
    simp only [pickR, List.toList_toArray, List.flatMap_cons, List.flatMap_nil, List.drop_succ_cons, List.drop_zero, List.take_succ_cons, List.take_zero, List.cons_append, List.nil_append, List.append_nil]
    repeat go_big_quiet_step (fail)
    refine wpQuiet_nil ?_
    refine skip_at 29 (some 34) 24 (by kernel_rfl) (by kernel_rfl) (by kernel_rfl) (by kernel_rfl) (by kernel_rfl) ⟨⟨_, hW⟩, rfl⟩ ?_
    simp only [Act.put, List.setIfInBounds_toArray, List.set_cons_zero, List.set_cons_succ]
    refine seg_range [(30, 10)] 14 (by kernel_rfl) (by kernel_rfl) (by kernel_rfl) (by kernel_rfl) (by kernel_rfl) ⟨⟨_, hW⟩, rfl⟩ ?_
    simp only [pickR, List.toList_toArray, List.flatMap_cons, List.flatMap_nil, List.drop_succ_cons, List.drop_zero, List.take_succ_cons, List.take_zero, List.cons_append, List.nil_append, List.append_nil]
    repeat go_big_quiet_step (fail)
    refine wpQuiet_nil ?_
    refine skip_at 40 (some 45) 13 (by kernel_rfl) (by kernel_rfl) (by kernel_rfl) (by kernel_rfl) (by kernel_rfl) ⟨⟨_, hW⟩, rfl⟩ ?_
    simp only [Act.put, List.setIfInBounds_toArray, List.set_cons_zero, List.set_cons_succ]
    refine seg_range [(41, 10)] 3 (by kernel_rfl) (by kernel_rfl) (by kernel_rfl) (by kernel_rfl) (by kernel_rfl) ⟨⟨_, hW⟩, rfl⟩ ?_
    simp only [pickR, List.toList_toArray, List.flatMap_cons, List.flatMap_nil, List.drop_succ_cons, List.drop_zero, List.take_succ_cons, List.take_zero, List.cons_append, List.nil_append, List.append_nil]
    repeat go_big_quiet_step (fail)
    refine wpQuiet_nil ?_
    refine skip_at 51 (some 56) 2 (by kernel_rfl) (by kernel_rfl) (by kernel_rfl) (by kernel_rfl) (by kernel_rfl) ⟨⟨_, hW⟩, rfl⟩ ?_
    simp only [Act.put, List.setIfInBounds_toArray, List.set_cons_zero, List.set_cons_succ]
    refine seg_range [(52, 2)] 0 (by kernel_rfl) (by kernel_rfl) (by kernel_rfl) (by kernel_rfl) (by kernel_rfl) ⟨⟨_, hW⟩, rfl⟩ ?_
    simp only [pickR, List.toList_toArray, List.flatMap_cons, List.flatMap_nil, List.drop_succ_cons, List.drop_zero, List.take_succ_cons, List.take_zero, List.cons_append, List.nil_append, List.append_nil]
    repeat go_big_quiet_step (fail)
    refine wpQuiet_nil ?_
    refine text_end (by kernel_rfl) ?_
    go_wp2
    go_ret
    exact ⟨by rw [E.out]; simp, hW⟩
  | true =>
    cases X2 with
    | false =>
      refine seg_range [(0, 8)] 46 (by kernel_rfl) (by kernel_rfl) (by kernel_rfl) (by kernel_rfl) (by kernel_rfl) ⟨⟨_, hW⟩, rfl⟩ ?_
      simp only [pickR, List.toList_toArray, List.flatMap_cons, List.flatMap_nil, List.drop_succ_cons, List.drop_zero, List.take_succ_cons, List.take_zero, List.cons_append, List.nil_append, List.append_nil]
      repeat go_big_quiet_step (fail)
      refine wpQuiet_nil ?_
      refine call_at 8 (some 13) 30 #[.slice p0 pd.length p5, .slice q0 qd.length q5] 45 (by kernel_rfl) (by kernel_rfl) (by kernel_rfl) (by kernel_rfl) (by kernel_rfl) ?_
      refine (c0 _ (r0.below hW) (s0.below hW)).mono ?_
      rintro e w9 ⟨rfl, hb9⟩
      replace hW := hW.trans (hb9.mono hW.size)
      clear hb9
      refine ⟨_, rfl, ⟨⟨_, hW⟩, rfl⟩, ?_⟩
      simp only [Act.put, List.setIfInBounds_toArray, List.set_cons_zero, List.set_cons_succ]
      refine seg_range [(9, 9)] 36 (by kernel_rfl) (by kernel_rfl) (by kernel_rfl) (by kernel_rfl) (by kernel_rfl) ⟨⟨_, hW⟩, rfl⟩ ?_
      simp only [pickR, List.toList_toArray, List.flatMap_cons, List.flatMap_nil, List.drop_succ_cons, List.drop_zero, List.take_succ_cons, List.take_zero, List.cons_append, List.nil_append, List.append_nil]
      repeat go_big_quiet_step (fail)
      refine wpQuiet_nil ?_
      refine call_at 18 (some 23) 30 #[.slice p2 pt.length p7, .slice q2 qt.length q7] 35 (by kernel_rfl) (by kernel_rfl) (by kernel_rfl) (by kernel_rfl) (by kernel_rfl) ?_
      refine (c2 _ (r2.below hW) (s2.below hW)).mono ?_
      rintro e w9 ⟨rfl, hb9⟩
      replace hW := hW.trans (hb9.mono hW.size)
      clear hb9
      refine ⟨_, rfl, ⟨⟨_, hW⟩, rfl⟩, ?_⟩
      simp only [Act.put, List.setIfInBounds_toArray, List.set_cons_zero, List.set_cons_succ]
      refine seg_range [(19, 10)] 25 (by kernel_rfl) (by kernel_rfl) (by kernel_rfl) (by kernel_rfl) (by kernel_rfl) ⟨⟨_, hW⟩, rfl⟩ ?_
      simp only [pickR, List.toList_toArray, List.flatMap_cons, List.flatMap_nil, List.drop_succ_cons, List.drop_zero, List.take_succ_cons, List.take_zero, List.cons_append, List.nil_append, List.append_nil]
      repeat go_big_quiet_step (fail)
      refine wpQuiet_nil ?_
      refine skip_at 29 (some 34) 24 (by kernel_rfl) (by kernel_rfl) (by kernel_rfl) (by kernel_rfl) (by kernel_rfl) ⟨⟨_, hW⟩, rfl⟩ ?_
      simp only [Act.put, List.setIfInBounds_toArray, List.set_cons_zero, List.set_cons_succ]
      refine seg_range [(30, 10)] 14 (by kernel_rfl) (by kernel_rfl) (by kernel_rfl) (by kernel_rfl) (by kernel_rfl) ⟨⟨_, hW⟩, rfl⟩ ?_
      simp only [pickR, List.toList_toArray, List.flatMap_cons, List.flatMap_nil, List.drop_succ_cons, List.drop_zero, List.take_succ_cons, List.take_zero, List.cons_append, List.nil_append, List.append_nil]
      repeat go_big_quiet_step (fail)
      refine wpQuiet_nil ?_
      refine skip_at 40 (some 45) 13 (by kernel_rfl) (by kernel_rfl) (by kernel_rfl) (by kernel_rfl) (by kernel_rfl) ⟨⟨_, hW⟩, rfl⟩ ?_
      simp only [Act.put, List.setIfInBounds_toArray, List.set_cons_zero, List.set_cons_succ]
      refine seg_range [(41, 10)] 3 (by kernel_rfl) (by kernel_rfl) (by kernel_rfl) (by kernel_rfl) (by kernel_rfl) ⟨⟨_, hW⟩, rfl⟩ ?_
      simp only [pickR, List.toList_toArray, List.flatMap_cons, List.flatMap_nil, List.drop_succ_cons, List.drop_zero, List.take_succ_cons, List.take_zero, List.cons_append, List.nil_append, List.append_nil]
      repeat go_big_quiet_step (fail)
      refine wpQuiet_nil ?_
      refine skip_at 51 (some 56) 2 (by kernel_rfl) (by kernel_rfl) (by kernel_rfl) (by kernel_rfl) (by kernel_rfl) ⟨⟨_, hW⟩, rfl⟩ ?_
      simp only [Act.put, List.setIfInBounds_toArray, List.set_cons_zero, List.set_cons_succ]
      refine seg_range [(52, 2)] 0 (by kernel_rfl) (by kernel_rfl) (by kernel_rfl) (by kernel_rfl) (by kernel_rfl) ⟨⟨_, hW⟩, rfl⟩ ?_
      simp only [pickR, List.toList_toArray, List.flatMap_cons, List.flatMap_nil, List.drop_succ_cons, List.drop_zero, List.take_succ_cons, List.take_zero, List.cons_append, List.nil_append, List.append_nil]
      repeat go_big_quiet_step (fail)
      refine wpQuiet_nil ?_
      refine text_end (by kernel_rfl) ?_
      go_wp2
      go_ret
      exact ⟨by rw [E.out]; simp, hW⟩
    | true =>
      cases X1 with
      | false =>
        refine seg_range [(0, 8)] 46 (by kernel_rfl) (by kernel_rfl) (by kernel_rfl) (by kernel_rfl) (by kernel_rfl) ⟨⟨_, hW⟩, rfl⟩ ?_
        simp only [pickR, List.toList_toArray, List.flatMap_cons, List.flatMap_nil, List.drop_succ_cons, List.drop_zero, List.take_succ_cons, List.take_zero, List.cons_append, List.nil_append, List.append_nil]
        repeat go_big_quiet_step (fail)
        refine wpQuiet_nil ?_
        refine call_at 8 (some 13) 30 #[.slice p0 pd.length p5, .slice q0 qd.length q5] 45 (by kernel_rfl) (by kernel_rfl) (by kernel_rfl) (by kernel_rfl) (by kernel_rfl) ?_
        refine (c0 _ (r0.below hW) (s0.below hW)).mono ?_
        rintro e w9 ⟨rfl, hb9⟩
        replace hW := hW.trans (hb9.mono hW.size)
        clear hb9
        refine ⟨_, rfl, ⟨⟨_, hW⟩, rfl⟩, ?_⟩
        simp only [Act.put, List.setIfInBounds_toArray, List.set_cons_zero, List.set_cons_succ]
        refine seg_range [(9, 9)] 36 (by kernel_rfl) (by kernel_rfl) (by kernel_rfl) (by kernel_rfl) (by kernel_rfl) ⟨⟨_, hW⟩, rfl⟩ ?_
        simp only [pickR, List.toList_toArray, List.flatMap_cons, List.flatMap_nil, List.drop_succ_cons, List.drop_zero, List.take_succ_cons, List.take_zero, List.cons_append, List.nil_append, List.append_nil]
        repeat go_big_quiet_step (fail)
        refine wpQuiet_nil ?_
        refine call_at 18 (some 23) 30 #[.slice p2 pt.length p7, .slice q2 qt.length q7] 35 (by kernel_rfl) (by kernel_rfl) (by kernel_rfl) (by kernel_rfl) (by kernel_rfl) ?_
        refine (c2 _ (r2.below hW) (s2.below hW)).mono ?_
        rintro e w9 ⟨rfl, hb9⟩
        replace hW := hW.trans (hb9.mono hW.size)
        clear hb9
        refine ⟨_, rfl, ⟨⟨_, hW⟩, rfl⟩, ?_⟩
        simp only [Act.put, List.setIfInBounds_toArray, List.set_cons_zero, List.set_cons_succ]
        refine seg_range [(19, 10)] 25 (by kernel_rfl) (by kernel_rfl) (by kernel_rfl) (by kernel_rfl) (by kernel_rfl) ⟨⟨_, hW⟩, rfl⟩ ?_
        simp only [pickR, List.toList_toArray, List.flatMap_cons, List.flatMap_nil, List.drop_succ_cons, List.drop_zero, List.take_succ_cons, List.take_zero, List.cons_append, List.nil_append, List.append_nil]
        repeat go_big_quiet_step (fail)
        refine wpQuiet_nil ?_
        refine call_at 29 (some 34) 31 #[.slice p1 pb.length p6, .slice q1 qb.length q6] 24 (by kernel_rfl) (by kernel_rfl) (by kernel_rfl) (by kernel_rfl) (by kernel_rfl) ?_
        refine (c1 _ (r1.below hW) (s1.below hW)).mono ?_
        rintro e w9 ⟨rfl, hb9⟩
        replace hW := hW.trans (hb9.mono hW.size)
        clear hb9
        refine ⟨_, rfl, ⟨⟨_, hW⟩, rfl⟩, ?_⟩
        simp only [Act.put, List.setIfInBounds_toArray, List.set_cons_zero, List.set_cons_succ]
        refine seg_range [(30, 10)] 14 (by kernel_rfl) (by kernel_rfl) (by kernel_rfl) (by kernel_rfl) (by kernel_rfl) ⟨⟨_, hW⟩, rfl⟩ ?_
        simp only [pickR, List.toList_toArray, List.flatMap_cons, List.flatMap_nil, List.drop_succ_cons, List.drop_zero, List.take_succ_cons, List.take_zero, List.cons_append, List.nil_append, List.append_nil]
        repeat go_big_quiet_step (fail)
        refine wpQuiet_nil ?_
        refine skip_at 40 (some 45) 13 (by kernel_rfl) (by kernel_rfl) (by kernel_rfl) (by kernel_rfl) (by kernel_rfl) ⟨⟨_, hW⟩, rfl⟩ ?_
        simp only [Act.put, List.setIfInBounds_toArray, List.set_cons_zero, List.set_cons_succ]
        refine seg_range [(41, 10)] 3 (by kernel_rfl) (by kernel_rfl) (by kernel_rfl) (by kernel_rfl) (by kernel_rfl) ⟨⟨_, hW⟩, rfl⟩ ?_
        simp only [pickR, List.toList_toArray, List.flatMap_cons, List.flatMap_nil, List.drop_succ_cons, List.drop_zero, List.take_succ_cons, List.take_zero, List.cons_append, List.nil_append, List.append_nil]
        repeat go_big_quiet_step (fail)
        refine wpQuiet_nil ?_
        refine skip_at 51 (some 56) 2 (by kernel_rfl) (by kernel_rfl) (by kernel_rfl) (by kernel_rfl) (by kernel_rfl) ⟨⟨_, hW⟩, rfl⟩ ?_
        simp only [Act.put, List.setIfInBounds_toArray, List.set_cons_zero, List.set_cons_succ]
        refine seg_range [(52, 2)] 0 (by kernel_rfl) (by kernel_rfl) (by kernel_rfl) (by kernel_rfl) (by kernel_rfl) ⟨⟨_, hW⟩, rfl⟩ ?_
        simp only [pickR, List.toList_toArray, List.flatMap_cons, List.flatMap_nil, List.drop_succ_cons, List.drop_zero, List.take_succ_cons, List.take_zero, List.cons_append, List.nil_append, List.append_nil]
        repeat go_big_quiet_step (fail)
        refine wpQuiet_nil ?_
        refine text_end (by kernel_rfl) ?_
        go_wp2
        go_ret
        exact ⟨by rw [E.out]; simp, hW⟩
      | true =>
        cases X4 with
        | false =>
          refine seg_range [(0, 8)] 46 (by kernel_rfl) (by kernel_rfl) (by kernel_rfl) (by kernel_rfl) (by kernel_rfl) ⟨⟨_, hW⟩, rfl⟩ ?_
          simp only [pickR, List.toList_toArray, List.flatMap_cons, List.flatMap_nil, List.drop_succ_cons, List.drop_zero, List.take_succ_cons, List.take_zero, List.cons_append, List.nil_append, List.append_nil]
          repeat go_big_quiet_step (fail)
          refine wpQuiet_nil ?_
          refine call_at 8 (some 13) 30 #[.slice p0 pd.length p5, .slice q0 qd.length q5] 45 (by kernel_rfl) (by kernel_rfl) (by kernel_rfl) (by kernel_rfl) (by kernel_rfl) ?_
          refine (c0 _ (r0.below hW) (s0.below hW)).mono ?_
          rintro e w9 ⟨rfl, hb9⟩
          replace hW := hW.trans (hb9.mono hW.size)
          clear hb9
          refine ⟨_, rfl, ⟨⟨_, hW⟩, rfl⟩, ?_⟩
          simp only [Act.put, List.setIfInBounds_toArray, List.set_cons_zero, List.set_cons_succ]
          refine seg_range [(9, 9)] 36 (by kernel_rfl) (by kernel_rfl) (by kernel_rfl) (by kernel_rfl) (by kernel_rfl) ⟨⟨_, hW⟩, rfl⟩ ?_
          simp only [pickR, List.toList_toArray, List.flatMap_cons, List.flatMap_nil, List.drop_succ_cons, List.drop_zero, List.take_succ_cons, List.take_zero, List.cons_append, List.nil_append, List.append_nil]
          repeat go_big_quiet_step (fail)
          refine wpQuiet_nil ?_
          refine call_at 18 (some 23) 30 #[.slice p2 pt.length p7, .slice q2 qt.length q7] 35 (by kernel_rfl) (by kernel_rfl) (by kernel_rfl) (by kernel_rfl) (by kernel_rfl) ?_
          refine (c2 _ (r2.below hW) (s2.below hW)).mono ?_
          rintro e w9 ⟨rfl, hb9⟩
          replace hW := hW.trans (hb9.mono hW.size)
          clear hb9
          refine ⟨_, rfl, ⟨⟨_, hW⟩, rfl⟩, ?_⟩
          simp only [Act.put, List.setIfInBounds_toArray, List.set_cons_zero, List.set_cons_succ]
          refine seg_range [(19, 10)] 25 (by kernel_rfl) (by kernel_rfl) (by kernel_rfl) (by kernel_rfl) (by kernel_rfl) ⟨⟨_, hW⟩, rfl⟩ ?_
          simp only [pickR, List.toList_toArray, List.flatMap_cons, List.flatMap_nil, List.drop_succ_cons, List.drop_zero, List.take_succ_cons, List.take_zero, List.cons_append, List.nil_append, List.append_nil]
          repeat go_big_quiet_step (fail)
          refine wpQuiet_nil ?_
          refine call_at 29 (some 34) 31 #[.slice p1 pb.length p6, .slice q1 qb.length q6] 24 (by kernel_rfl) (by kernel_rfl) (by kernel_rfl) (by kernel_rfl) (by kernel_rfl) ?_
          refine (c1 _ (r1.below hW) (s1.below hW)).mono ?_
          rintro e w9 ⟨rfl, hb9⟩
          replace hW := hW.trans (hb9.mono hW.size)
          clear hb9
          refine ⟨_, rfl, ⟨⟨_, hW⟩, rfl⟩, ?_⟩
          simp only [Act.put, List.setIfInBounds_toArray, List.set_cons_zero, List.set_cons_succ]
          refine seg_range [(30, 10)] 14 (by kernel_rfl) (by kernel_rfl) (by kernel_rfl) (by kernel_rfl) (by kernel_rfl) ⟨⟨_, hW⟩, rfl⟩ ?_
          simp only [pickR, List.toList_toArray, List.flatMap_cons, List.flatMap_nil, List.drop_succ_cons, List.drop_zero, List.take_succ_cons, List.take_zero, List.cons_append, List.nil_append, List.append_nil]
          repeat go_big_quiet_step (fail)
          refine wpQuiet_nil ?_
          refine call_at 40 (some 45) 31 #[.slice p4 pn.length p9, .slice q4 qn.length q9] 13 (by kernel_rfl) (by kernel_rfl) (by kernel_rfl) (by kernel_rfl) (by kernel_rfl) ?_
          refine (c4 _ (r4.below hW) (s4.below hW)).mono ?_
          rintro e w9 ⟨rfl, hb9⟩
          replace hW := hW.trans (hb9.mono hW.size)
          clear hb9
          refine ⟨_, rfl, ⟨⟨_, hW⟩, rfl⟩, ?_⟩
          simp only [Act.put, List.setIfInBounds_toArray, List.set_cons_zero, List.set_cons_succ]
          refine seg_range [(41, 10)] 3 (by kernel_rfl) (by kernel_rfl) (by kernel_rfl) (by kernel_rfl) (by kernel_rfl) ⟨⟨_, hW⟩, rfl⟩ ?_
          simp only [pickR, List.toList_toArray, List.flatMap_cons, List.flatMap_nil, List.drop_succ_cons, List.drop_zero, List.take_succ_cons, List.take_zero, List.cons_append, List.nil_append, List.append_nil]
          repeat go_big_quiet_step (fail)
          refine wpQuiet_nil ?_
          refine skip_at 51 (some 56) 2 (by kernel_rfl) (by kernel_rfl) (by kernel_rfl) (by kernel_rfl) (by kernel_rfl) ⟨⟨_, hW⟩, rfl⟩ ?_
          simp only [Act.put, List.setIfInBounds_toArray, List.set_cons_zero, List.set_cons_succ]
          refine seg_range [(52, 2)] 0 (by kernel_rfl) (by kernel_rfl) (by kernel_rfl) (by kernel_rfl) (by kernel_rfl) ⟨⟨_, hW⟩, rfl⟩ ?_
          simp only [pickR, List.toList_toArray, List.flatMap_cons, List.flatMap_nil, List.drop_succ_cons, List.drop_zero, List.take_succ_cons, List.take_zero, List.cons_append, List.nil_append, List.append_nil]
          repeat go_big_quiet_step (fail)
          refine wpQuiet_nil ?_
          refine text_end (by kernel_rfl) ?_
          go_wp2
          go_ret
          exact ⟨by rw [E.out]; simp, hW⟩
        | true =>
          refine seg_range [(0, 8)] 46 (by kernel_rfl) (by kernel_rfl) (by kernel_rfl) (by kernel_rfl) (by kernel_rfl) ⟨⟨_, hW⟩, rfl⟩ ?_
          simp only [pickR, List.toList_toArray, List.flatMap_cons, List.flatMap_nil, List.drop_succ_cons, List.drop_zero, List.take_succ_cons, List.take_zero, List.cons_append, List.nil_append, List.append_nil]
          repeat go_big_quiet_step (fail)
          refine wpQuiet_nil ?_
          refine call_at 8 (some 13) 30 #[.slice p0 pd.length p5, .slice q0 qd.length q5] 45 (by kernel_rfl) (by kernel_rfl) (by kernel_rfl) (by kernel_rfl) (by kernel_rfl) ?_
          refine (c0 _ (r0.below hW) (s0.below hW)).mono ?_
          rintro e w9 ⟨rfl, hb9⟩
          replace hW := hW.trans (hb9.mono hW.size)
          clear hb9
          refine ⟨_, rfl, ⟨⟨_, hW⟩, rfl⟩, ?_⟩
          simp only [Act.put, List.setIfInBounds_toArray, List.set_cons_zero, List.set_cons_succ]
          refine seg_range [(9, 9)] 36 (by kernel_rfl) (by kernel_rfl) (by kernel_rfl) (by kernel_rfl) (by kernel_rfl) ⟨⟨_, hW⟩, rfl⟩ ?_
          simp only [pickR, List.toList_toArray, List.flatMap_cons, List.flatMap_nil, List.drop_succ_cons, List.drop_zero, List.take_succ_cons, List.take_zero, List.cons_append, List.nil_append, List.append_nil]
          repeat go_big_quiet_step (fail)
          refine wpQuiet_nil ?_
          refine call_at 18 (some 23) 30 #[.slice p2 pt.length p7, .slice q2 qt.length q7] 35 (by kernel_rfl) (by kernel_rfl) (by kernel_rfl) (by kernel_rfl) (by kernel_rfl) ?_
          refine (c2 _ (r2.below hW) (s2.below hW)).mono ?_
          rintro e w9 ⟨rfl, hb9⟩
          replace hW := hW.trans (hb9.mono hW.size)
          clear hb9
          refine ⟨_, rfl, ⟨⟨_, hW⟩, rfl⟩, ?_⟩
          simp only [Act.put, List.setIfInBounds_toArray, List.set_cons_zero, List.set_cons_succ]
          refine seg_range [(19, 10)] 25 (by kernel_rfl) (by kernel_rfl) (by kernel_rfl) (by kernel_rfl) (by kernel_rfl) ⟨⟨_, hW⟩, rfl⟩ ?_
          simp only [pickR, List.toList_toArray, List.flatMap_cons, List.flatMap_nil, List.drop_succ_cons, List.drop_zero, List.take_succ_cons, List.take_zero, List.cons_append, List.nil_append, List.append_nil]
          repeat go_big_quiet_step (fail)
          refine wpQuiet_nil ?_
          refine call_at 29 (some 34) 31 #[.slice p1 pb.length p6, .slice q1 qb.length q6] 24 (by kernel_rfl) (by kernel_rfl) (by kernel_rfl) (by kernel_rfl) (by kernel_rfl) ?_
          refine (c1 _ (r1.below hW) (s1.below hW)).mono ?_
          rintro e w9 ⟨rfl, hb9⟩
          replace hW := hW.trans (hb9.mono hW.size)
          clear hb9
          refine ⟨_, rfl, ⟨⟨_, hW⟩, rfl⟩, ?_⟩
          simp only [Act.put, List.setIfInBounds_toArray, List.set_cons_zero, List.set_cons_succ]
          refine seg_range [(30, 10)] 14 (by kernel_rfl) (by kernel_rfl) (by kernel_rfl) (by kernel_rfl) (by kernel_rfl) ⟨⟨_, hW⟩, rfl⟩ ?_
          simp only [pickR, List.toList_toArray, List.flatMap_cons, List.flatMap_nil, List.drop_succ_cons, List.drop_zero, List.take_succ_cons, List.take_zero, List.cons_append, List.nil_append, List.append_nil]
          repeat go_big_quiet_step (fail)
          refine wpQuiet_nil ?_
          refine call_at 40 (some 45) 31 #[.slice p4 pn.length p9, .slice q4 qn.length q9] 13 (by kernel_rfl) (by kernel_rfl) (by kernel_rfl) (by kernel_rfl) (by kernel_rfl) ?_
          refine (c4 _ (r4.below hW) (s4.below hW)).mono ?_
          rintro e w9 ⟨rfl, hb9⟩
          replace hW := hW.trans (hb9.mono hW.size)
          clear hb9
          refine ⟨_, rfl, ⟨⟨_, hW⟩, rfl⟩, ?_⟩
          simp only [Act.put, List.setIfInBounds_toArray, List.set_cons_zero, List.set_cons_succ]
          refine seg_range [(41, 10)] 3 (by kernel_rfl) (by kernel_rfl) (by kernel_rfl) (by kernel_rfl) (by kernel_rfl) ⟨⟨_, hW⟩, rfl⟩ ?_
          simp only [pickR, List.toList_toArray, List.flatMap_cons, List.flatMap_nil, List.drop_succ_cons, List.drop_zero, List.take_succ_cons, List.take_zero, List.cons_append, List.nil_append, List.append_nil]
          repeat go_big_quiet_step (fail)
          refine wpQuiet_nil ?_
          refine call_at 51 (some 56) 32 #[.slice p3 pu.length p8, .slice q3 qu.length q8] 2 (by kernel_rfl) (by kernel_rfl) (by kernel_rfl) (by kernel_rfl) (by kernel_rfl) ?_
          refine (c3 _ (r3.below hW) (s3.below hW)).mono ?_
          rintro e w9 ⟨rfl, hb9⟩
          replace hW := hW.trans (hb9.mono hW.size)
          clear hb9
          refine ⟨_, rfl, ⟨⟨_, hW⟩, rfl⟩, ?_⟩
          simp only [Act.put, List.setIfInBounds_toArray, List.set_cons_zero, List.set_cons_succ]
          refine seg_range [(52, 2)] 0 (by kernel_rfl) (by kernel_rfl) (by kernel_rfl) (by kernel_rfl) (by kernel_rfl) ⟨⟨_, hW⟩, rfl⟩ ?_
          simp only [pickR, List.toList_toArray, List.flatMap_cons, List.flatMap_nil, List.drop_succ_cons, List.drop_zero, List.take_succ_cons, List.take_zero, List.cons_append, List.nil_append, List.append_nil]
          repeat go_big_quiet_step (fail)
          refine wpQuiet_nil ?_
          refine text_end (by kernel_rfl) ?_
          go_wp2
          go_ret
          exact ⟨by rw [E.out]; simp, hW⟩


def sameN (kn sf : Int) (x : RepE) (kn' sf' : Int) (y : RepE) : Bool := (kn == kn') && ((sf == sf') && sameRep x y)

set_option maxRecDepth 100000 in
set_option maxHeartbeats 4000000 in
theorem implSameNodes_any (kn sf : Int) (p : RepQ) (kn' sf' : Int) (q : RepQ) (w : World) (h : repK.rd w p) (h' : repK.rd w q) (hl : p.n ≤ 1048576) (hl' : q.n ≤ 1048576) :
    Calls Try.prog 7 #[.agg #[.int .i64 kn, .int .i64 sf, p.vd, p.vb, p.vt, p.vu, p.vn], .agg #[.int .i64 kn', .int .i64 sf', q.vd, q.vb, q.vt, q.vu, q.vn]] w fun e w' => e = .returned (.bool (sameN kn sf p.e kn' sf' q.e)) ∧ Below w.heap.size w w' := by
  have hs := fun w h h' => implSameReplicas_any p q w h h' hl hl'
  have hr := fun (w' : World) hb => repK.rd_below (w' := w') h hb
  have hr' := fun (w' : World) hb => repK.rd_below (w' := w') h' hb
  unfold sameN
  generalize sameRep p.e q.e = S at *
  obtain ⟨vd, done, vb, base, vt, tent, vu, undos, vn, now⟩ := p
  obtain ⟨a0, k0, rfl⟩ : ∃ a c, vd = .slice a done.length c := h.1.shape
  obtain ⟨a1, k1, rfl⟩ : ∃ a c, vb = .slice a base.length c := h.2.1.shape
  obtain ⟨a2, k2, rfl⟩ : ∃ a c, vt = .slice a tent.length c := h.2.2.1.shape
  obtain ⟨a3, k3, rfl⟩ : ∃ a c, vu = .slice a undos.length c := h.2.2.2.1.shape
  obtain ⟨a4, k4, rfl⟩ : ∃ a c, vn = .slice a now.length c := h.2.2.2.2.shape
  obtain ⟨vd', done', vb', base', vt', tent', vu', undos', vn', now'⟩ := q
  obtain ⟨a0', k0', rfl⟩ : ∃ a c, vd' = .slice a done'.length c := h'.1.shape
  obtain ⟨a1', k1', rfl⟩ : ∃ a c, vb' = .slice a base'.length c := h'.2.1.shape
  obtain ⟨a2', k2', rfl⟩ : ∃ a c, vt' = .slice a tent'.length c := h'.2.2.1.shape
  obtain ⟨a3', k3', rfl⟩ : ∃ a c, vu' = .slice a undos'.length c := h'.2.2.2.1.shape
  obtain ⟨a4', k4', rfl⟩ : ∃ a c, vn' = .slice a now'.length c := h'.2.2.2.2.shape
  dsimp only at hs
  have hB : Below w.heap.size w ((w.alloc (.cells #[.int .i64 kn, .int .i64 sf, .slice a0 done.length k0, .slice a1 base.length k1, .slice a2 tent.length k2, .slice a3 undos.length k3, .slice a4 now.length k4] 37)).alloc (.cells #[.int .i64 kn', .int .i64 sf', .slice a0' done'.length k0', .slice a1' base'.length k1', .slice a2' tent'.length k2', .slice a3' undos'.length k3', .slice a4' now'.length k4'] 37)) := by go_grown
  have B := (Blk.new w 37 #[.int .i64 kn, .int .i64 sf, .slice a0 done.length k0, .slice a1 base.length k1, .slice a2 tent.length k2, .slice a3 undos.length k3, .slice a4 now.length k4]).below (w' := ((w.alloc (.cells #[.int .i64 kn, .int .i64 sf, .slice a0 done.length k0, .slice a1 base.length k1, .slice a2 tent.length k2, .slice a3 undos.length k3, .slice a4 now.length k4] 37)).alloc (.cells #[.int .i64 kn', .int .i64 sf', .slice a0' done'.length k0', .slice a1' base'.length k1', .slice a2' tent'.length k2', .slice a3' undos'.length k3', .slice a4' now'.length k4'] 37))) (by go_grown)
  have B' := Blk.new (w.alloc (.cells #[.int .i64 kn, .int .i64 sf, .slice a0 done.length k0, .slice a1 base.length k1, .slice a2 tent.length k2, .slice a3 undos.length k3, .slice a4 now.length k4] 37)) 37 #[.int .i64 kn', .int .i64 sf', .slice a0' done'.length k0', .slice a1' base'.length k1', .slice a2' tent'.length k2', .slice a3' undos'.length k3', .slice a4' now'.length k4']
  simp only [World.size_alloc] at B'
  have q0 := B.cell 0 _ rfl
  have q1 := B.cell 1 _ rfl
  have q2 := B.cell 2 _ rfl
  have q3 := B.cell 3 _ rfl
  have q4 := B.cell 4 _ rfl
  have q5 := B.cell 5 _ rfl
  have q6 := B.cell 6 _ rfl
  have r0 := B'.cell 0 _ rfl
  have r1 := B'.cell 1 _ rfl
  have r2 := B'.cell 2 _ rfl
  have r3 := B'.cell 3 _ rfl
  have r4 := B'.cell 4 _ rfl
  have r5 := B'.cell 5 _ rfl
  have r6 := B'.cell 6 _ rfl
  have HS : Hid _ := hs
  have HR : Hid _ := hr
  have HR' : Hid _ := hr'
  clear hs hr hr' hl hl'
  by_cases hk : kn = kn'
  case neg =>
    have ek : (kn == kn') = false := by simpa using hk
    have HE : Hid (((kn == kn') && ((sf == sf') && S)) = false) := show _ = _ by rw [ek]; rfl
    clear hk
    go_enter Try.func7, Try.ntmps7
    go_wp2
    go_ret
    exact ⟨by first | (rw [HE.out]; done) | (rw [HE.out]; rfl), hB⟩
  subst hk
  have ek : (kn == kn) = true := by simp
  by_cases hf : sf = sf'
  case neg =>
    have ef : (sf == sf') = false := by simpa using hf
    have HE : Hid (((kn == kn) && ((sf == sf') && S)) = false) := show _ = _ by rw [ek, ef]; rfl
    clear hf
    go_enter Try.func7, Try.ntmps7
    go_wp2
    go_ret
    exact ⟨by first | (rw [HE.out]; done) | (rw [HE.out]; rfl), hB⟩
  subst hf
  have ef : (sf == sf) = true := by simp
  have HE : Hid (((kn == kn) && ((sf == sf) && S)) = S) := show _ = _ by rw [ek, ef]; rfl
  go_enter Try.func7, Try.ntmps7
  go_wp2_with fail
  refine (HS.out _ (HR.out _ hB) (HR'.out _ hB)).mono ?_
  rintro e w1 ⟨rfl, hb⟩
  replace hB := hB.trans (hb.mono hB.size)
  go_wp2
  go_ret
  exact ⟨by first | (rw [HE.out]; done) | (rw [HE.out]; rfl), hB⟩

set_option maxRecDepth 100000 in
set_option maxHeartbeats 4000000 in
theorem l11Same_any (b b' : Nat) (kn sf : Int) (p : RepQ) (kn' sf' : Int) (q : RepQ) (w : World) (hP : Blk w b 37 #[.int .i64 kn, .int .i64 sf, p.vd, p.vb, p.vt, p.vu, p.vn]) (hQ : Blk w b' 37 #[.int .i64 kn', .int .i64 sf', q.vd, q.vb, q.vt, q.vu, q.vn]) (h : repK.rd w p) (h' : repK.rd w q) (hl : p.n ≤ 1048576) (hl' : q.n ≤ 1048576) :
    Calls Try.prog 10 #[.pointer (some ⟨b, 0, none⟩), .pointer (some ⟨b', 0, none⟩)] w fun e w' => e = .returned (.bool (sameN kn sf p.e kn' sf' q.e)) ∧ Below w.heap.size w w' := by
  have hs := fun w hP hQ h h' => l9Same_n2 kn sf kn' sf' b b' p q w hP hQ h h' hl hl'
  have hr := fun (w' : World) hb => repK.rd_below (w' := w') h hb
  have hr' := fun (w' : World) hb => repK.rd_below (w' := w') h' hb
  unfold sameN
  generalize sameRep p.e q.e = S at *
  obtain ⟨vd, done, vb, base, vt, tent, vu, undos, vn, now⟩ := p
  obtain ⟨a0, k0, rfl⟩ : ∃ a c, vd = .slice a done.length c := h.1.shape
  obtain ⟨a1, k1, rfl⟩ : ∃ a c, vb = .slice a base.length c := h.2.1.shape
  obtain ⟨a2, k2, rfl⟩ : ∃ a c, vt = .slice a tent.length c := h.2.2.1.shape
  obtain ⟨a3, k3, rfl⟩ : ∃ a c, vu = .slice a undos.length c := h.2.2.2.1.shape
  obtain ⟨a4, k4, rfl⟩ : ∃ a c, vn = .slice a now.length c := h.2.2.2.2.shape
  obtain ⟨vd', done', vb', base', vt', tent', vu', undos', vn', now'⟩ := q
  obtain ⟨a0', k0', rfl⟩ : ∃ a c, vd' = .slice a done'.length c := h'.1.shape
  obtain ⟨a1', k1', rfl⟩ : ∃ a c, vb' = .slice a base'.length c := h'.2.1.shape
  obtain ⟨a2', k2', rfl⟩ : ∃ a c, vt' = .slice a tent'.length c := h'.2.2.1.shape
  obtain ⟨a3', k3', rfl⟩ : ∃ a c, vu' = .slice a undos'.length c := h'.2.2.2.1.shape
  obtain ⟨a4', k4', rfl⟩ : ∃ a c, vn' = .slice a now'.length c := h'.2.2.2.2.shape
  dsimp only at hs hP hQ
  have c0 := hP.lat 0 _ rfl
  have c1 := hP.lat 1 _ rfl
  have c2 := hP.lat 2 _ rfl
  have c3 := hP.lat 3 _ rfl
  have c4 := hP.lat 4 _ rfl
  have c5 := hP.lat 5 _ rfl
  have c6 := hP.lat 6 _ rfl
  have d0 := hQ.lat 0 _ rfl
  have d1 := hQ.lat 1 _ rfl
  have d2 := hQ.lat 2 _ rfl
  have d3 := hQ.lat 3 _ rfl
  have d4 := hQ.lat 4 _ rfl
  have d5 := hQ.lat 5 _ rfl
  have d6 := hQ.lat 6 _ rfl
  have HS : Hid _ := hs
  have HR : Hid _ := hr
  have HR' : Hid _ := hr'
  clear hs hr hr' hl hl'
  by_cases hk : kn = kn'
  case neg =>
    have ek : (kn == kn') = false := by simpa using hk
    have HE : Hid (((kn == kn') && ((sf == sf') && S)) = false) := show _ = _ by rw [ek]; rfl
    clear hk
    go_enter Try.func10, Try.ntmps10
    go_wp2_with fail
    have hW : Below w.heap.size w w.drew := (Below.refl _ _).drew
    have hnn : Nonempty (Lat w) := ⟨⟨w, Below.refl _ _⟩⟩
    refine text_begin (S := fun w' => ∃ u : Lat w, w' = u.val) (by kernel_rfl) ?_
    refine seg_range [(0, 27)] 3 (by kernel_rfl) (by kernel_rfl) (by kernel_rfl) (by kernel_rfl) (by kernel_rfl) ⟨⟨_, hW⟩, rfl⟩ ?_
    simp only [pickR, List.toList_toArray, List.flatMap_cons, List.flatMap_nil, List.drop_succ_cons, List.drop_zero, List.take_succ_cons, List.take_zero, List.cons_append, List.nil_append, List.append_nil]
    repeat go_big_quiet_step (fail)
    refine wpQuiet_nil ?_
    refine skip_at 27 (some 32) 2 (by kernel_rfl) (by kernel_rfl) (by kernel_rfl) (by kernel_rfl) (by kernel_rfl) ⟨⟨_, hW⟩, rfl⟩ ?_
    simp only [Act.put, List.setIfInBounds_toArray, List.set_cons_zero, List.set_cons_succ]
    refine seg_range [(28, 2)] 0 (by kernel_rfl) (by kernel_rfl) (by kernel_rfl) (by kernel_rfl) (by kernel_rfl) ⟨⟨_, hW⟩, rfl⟩ ?_
    simp only [pickR, List.toList_toArray, List.flatMap_cons, List.flatMap_nil, List.drop_succ_cons, List.drop_zero, List.take_succ_cons, List.take_zero, List.cons_append, List.nil_append, List.append_nil]
    repeat go_big_quiet_step (fail)
    refine wpQuiet_nil ?_
    refine text_end (by kernel_rfl) ?_
    go_wp2
    go_ret
    exact ⟨by first | (rw [HE.out]; done) | (rw [HE.out]; rfl), hW⟩
  subst hk
  have ek : (kn == kn) = true := by simp
  by_cases hf : sf = sf'
  case neg =>
    have ef : (sf == sf') = false := by simpa using hf
    have HE : Hid (((kn == kn) && ((sf == sf') && S)) = false) := show _ = _ by rw [ek, ef]; rfl
    clear hf
    go_enter Try.func10, Try.ntmps10
    go_wp2_with fail
    have hW : Below w.heap.size w w.drew := (Below.refl _ _).drew
    have hnn : Nonempty (Lat w) := ⟨⟨w, Below.refl _ _⟩⟩
    refine text_begin (S := fun w' => ∃ u : Lat w, w' = u.val) (by kernel_rfl) ?_
    refine seg_range [(0, 27)] 3 (by kernel_rfl) (by kernel_rfl) (by kernel_rfl) (by kernel_rfl) (by kernel_rfl) ⟨⟨_, hW⟩, rfl⟩ ?_
    simp only [pickR, List.toList_toArray, List.flatMap_cons, List.flatMap_nil, List.drop_succ_cons, List.drop_zero, List.take_succ_cons, List.take_zero, List.cons_append, List.nil_append, List.append_nil]
    repeat go_big_quiet_step (fail)
    refine wpQuiet_nil ?_
    refine skip_at 27 (some 32) 2 (by kernel_rfl) (by kernel_rfl) (by kernel_rfl) (by kernel_rfl) (by kernel_rfl) ⟨⟨_, hW⟩, rfl⟩ ?_
    simp only [Act.put, List.setIfInBounds_toArray, List.set_cons_zero, List.set_cons_succ]
    refine seg_range [(28, 2)] 0 (by kernel_rfl) (by kernel_rfl) (by kernel_rfl) (by kernel_rfl) (by kernel_rfl) ⟨⟨_, hW⟩, rfl⟩ ?_
    simp only [pickR, List.toList_toArray, List.flatMap_cons, List.flatMap_nil, List.drop_succ_cons, List.drop_zero, List.take_succ_cons, List.take_zero, List.cons_append, List.nil_append, List.append_nil]
    repeat go_big_quiet_step (fail)
    refine wpQuiet_nil ?_
    refine text_end (by kernel_rfl) ?_
    go_wp2
    go_ret
    exact ⟨by first | (rw [HE.out]; done) | (rw [HE.out]; rfl), hW⟩
  subst hf
  have ef : (sf == sf) = true := by simp
  have HE : Hid (((kn == kn) && ((sf == sf) && S)) = S) := show _ = _ by rw [ek, ef]; rfl
  go_enter Try.func10, Try.ntmps10
  go_wp2_with fail
  have hW : Below w.heap.size w w.drew := (Below.refl _ _).drew
  have hnn : Nonempty (Lat w) := ⟨⟨w, Below.refl _ _⟩⟩
  refine text_begin (S := fun w' => ∃ u : Lat w, w' = u.val) (by kernel_rfl) ?_
  refine seg_range [(0, 27)] 3 (by kernel_rfl) (by kernel_rfl) (by kernel_rfl) (by kernel_rfl) (by kernel_rfl) ⟨⟨_, hW⟩, rfl⟩ ?_
  simp only [pickR, List.toList_toArray, List.flatMap_cons, List.flatMap_nil, List.drop_succ_cons, List.drop_zero, List.take_succ_cons, List.take_zero, List.cons_append, List.nil_append, List.append_nil]
  repeat go_big_quiet_step (fail)
  refine wpQuiet_nil ?_
  refine call_at 27 (some 32) 17 #[.pointer (some ⟨b, 2, none⟩), .pointer (some ⟨b', 2, none⟩)] 2 (by kernel_rfl) (by kernel_rfl) (by kernel_rfl) (by kernel_rfl) (by kernel_rfl) ?_
  refine (HS.out _ (hP.below hW) (hQ.below hW) (HR.out _ hW) (HR'.out _ hW)).mono ?_
  rintro e w9 ⟨rfl, hb9⟩
  replace hW := hW.trans (hb9.mono hW.size)
  clear hb9
  refine ⟨_, rfl, ⟨⟨_, hW⟩, rfl⟩, ?_⟩
  simp only [Act.put, List.setIfInBounds_toArray, List.set_cons_zero, List.set_cons_succ]
  refine seg_range [(28, 2)] 0 (by kernel_rfl) (by kernel_rfl) (by kernel_rfl) (by kernel_rfl) (by kernel_rfl) ⟨⟨_, hW⟩, rfl⟩ ?_
  simp only [pickR, List.toList_toArray, List.flatMap_cons, List.flatMap_nil, List.drop_succ_cons, List.drop_zero, List.take_succ_cons, List.take_zero, List.cons_append, List.nil_append, List.append_nil]
  repeat go_big_quiet_step (fail)
  refine wpQuiet_nil ?_
  refine text_end (by kernel_rfl) ?_
  go_wp2
  go_ret
  exact ⟨by first | (rw [HE.out]; done) | (rw [HE.out]; rfl), hW⟩

theorem specSameNodes_any (kn sf : Int) (p : RepQ) (kn' sf' : Int) (q : RepQ) (w : World) (h : repK.rd w p) (h' : repK.rd w q) (hl : p.n ≤ 1048576) (hl' : q.n ≤ 1048576) :
    Calls Try.prog 5 #[.agg #[.int .i64 kn, .int .i64 sf, p.vd, p.vb, p.vt, p.vu, p.vn], .agg #[.int .i64 kn', .int .i64 sf', q.vd, q.vb, q.vt, q.vu, q.vn]] w fun e w' => e = .returned (.bool (sameN kn sf p.e kn' sf' q.e)) ∧ Below w.heap.size w w' := by
  have hs := fun b b' w hP hQ h h' => l11Same_any b b' kn sf p kn' sf' q w hP hQ h h' hl hl'
  have hr := fun (w' : World) hb => repK.rd_below (w' := w') h hb
  have hr' := fun (w' : World) hb => repK.rd_below (w' := w') h' hb
  generalize sameN kn sf p.e kn' sf' q.e = S at *
  obtain ⟨vd, done, vb, base, vt, tent, vu, undos, vn, now⟩ := p
  obtain ⟨a0, k0, rfl⟩ : ∃ a c, vd = .slice a done.length c := h.1.shape
  obtain ⟨a1, k1, rfl⟩ : ∃ a c, vb = .slice a base.length c := h.2.1.shape
  obtain ⟨a2, k2, rfl⟩ : ∃ a c, vt = .slice a tent.length c := h.2.2.1.shape
  obtain ⟨a3, k3, rfl⟩ : ∃ a c, vu = .slice a undos.length c := h.2.2.2.1.shape
  obtain ⟨a4, k4, rfl⟩ : ∃ a c, vn = .slice a now.length c := h.2.2.2.2.shape
  obtain ⟨vd', done', vb', base', vt', tent', vu', undos', vn', now'⟩ := q
  obtain ⟨a0', k0', rfl⟩ : ∃ a c, vd' = .slice a done'.length c := h'.1.shape
  obtain ⟨a1', k1', rfl⟩ : ∃ a c, vb' = .slice a base'.length c := h'.2.1.shape
  obtain ⟨a2', k2', rfl⟩ : ∃ a c, vt' = .slice a tent'.length c := h'.2.2.1.shape
  obtain ⟨a3', k3', rfl⟩ : ∃ a c, vu' = .slice a undos'.length c := h'.2.2.2.1.shape
  obtain ⟨a4', k4', rfl⟩ : ∃ a c, vn' = .slice a now'.length c := h'.2.2.2.2.shape
  dsimp only at hs
  have hB : Below w.heap.size w ((w.alloc (.cells #[.int .i64 kn, .int .i64 sf, .slice a0 done.length k0, .slice a1 base.length k1, .slice a2 tent.length k2, .slice a3 undos.length k3, .slice a4 now.length k4] 37)).alloc (.cells #[.int .i64 kn', .int .i64 sf', .slice a0' done'.length k0', .slice a1' base'.length k1', .slice a2' tent'.length k2', .slice a3' undos'.length k3', .slice a4' now'.length k4'] 37)) := by go_grown
  have B := (Blk.new w 37 #[.int .i64 kn, .int .i64 sf, .slice a0 done.length k0, .slice a1 base.length k1, .slice a2 tent.length k2, .slice a3 undos.length k3, .slice a4 now.length k4]).below (w' := ((w.alloc (.cells #[.int .i64 kn, .int .i64 sf, .slice a0 done.length k0, .slice a1 base.length k1, .slice a2 tent.length k2, .slice a3 undos.length k3, .slice a4 now.length k4] 37)).alloc (.cells #[.int .i64 kn', .int .i64 sf', .slice a0' done'.length k0', .slice a1' base'.length k1', .slice a2' tent'.length k2', .slice a3' undos'.length k3', .slice a4' now'.length k4'] 37))) (by go_grown)
  have B' := Blk.new (w.alloc (.cells #[.int .i64 kn, .int .i64 sf, .slice a0 done.length k0, .slice a1 base.length k1, .slice a2 tent.length k2, .slice a3 undos.length k3, .slice a4 now.length k4] 37)) 37 #[.int .i64 kn', .int .i64 sf', .slice a0' done'.length k0', .slice a1' base'.length k1', .slice a2' tent'.length k2', .slice a3' undos'.length k3', .slice a4' now'.length k4']
  simp only [World.size_alloc] at B'
  go_enter Try.func5, Try.ntmps5
  go_wp2_with fail
  generalize ((w.alloc (.cells #[.int .i64 kn, .int .i64 sf, .slice a0 done.length k0, .slice a1 base.length k1, .slice a2 tent.length k2, .slice a3 undos.length k3, .slice a4 now.length k4] 37)).alloc (.cells #[.int .i64 kn', .int .i64 sf', .slice a0' done'.length k0', .slice a1' base'.length k1', .slice a2' tent'.length k2', .slice a3' undos'.length k3', .slice a4' now'.length k4'] 37)) = W at *
  refine (hs _ _ W B B' (hr W hB) (hr' W hB)).mono ?_
  rintro e w1 ⟨rfl, hb⟩
  replace hB := hB.trans (hb.mono hB.size)
  go_wp2
  go_ret
  exact ⟨rfl, hB⟩

end Go.Proofs.Ytpmkhnakgeillaa

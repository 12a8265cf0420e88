/- Nodes that lie in a list: the model's compare of two of them. No condition. -/
import Derived.Test.YtkkdjgiencilbaaSn11
namespace Go.Proofs.Ytkkdjgiencilbaa
open Go.RowKit
open Go.BigFrame
set_option linter.unusedVariables false
set_option linter.unusedSimpArgs false
set_option maxRecDepth 100000

/-- These cells lie in block b from o on. -/
def Rng (w : World) (b o : Nat) (cs : List Value) : Prop := b < w.heap.size ∧ ∀ j x, cs[j]? = some x → w.cell? ⟨b, o + j, none⟩ = some x
theorem Rng.cell {w : World} {b o : Nat} {cs : List Value} (h : Rng w b o cs) (j : Nat) (x : Value) (hx : cs[j]? = some x) : w.cell? ⟨b, o + j, none⟩ = some x := h.2 j x hx
theorem Rng.cell0 {w : World} {b o : Nat} {cs : List Value} (h : Rng w b o cs) (x : Value) (hx : cs[0]? = some x) : w.cell? ⟨b, o, none⟩ = some x := h.2 0 x hx
theorem Rng.lat {w : World} {b o : Nat} {cs : List Value} (h : Rng w b o cs) (j : Nat) (x : Value) (hx : cs[j]? = some x) : ∀ u : Lat w, u.val.cell? ⟨b, o + j, none⟩ = some x := lat_cell (h.2 j x hx)
theorem Rng.lat0 {w : World} {b o : Nat} {cs : List Value} (h : Rng w b o cs) (x : Value) (hx : cs[0]? = some x) : ∀ u : Lat w, u.val.cell? ⟨b, o, none⟩ = some x := lat_cell (h.2 0 x hx)
theorem Rng.below {w w' : World} {b o : Nat} {cs : List Value} (h : Rng w b o cs) (hb : Below w.heap.size w w') : Rng w' b o cs := ⟨Nat.lt_of_lt_of_le h.1 hb.size, fun j x hx => (hb.cell (p := ⟨b, o + j, none⟩) h.1).trans (h.2 j x hx)⟩
theorem Rng.drop2 {w : World} {b o : Nat} {x y : Value} {cs : List Value} (h : Rng w b o (x :: y :: cs)) : Rng w b (o + 2) cs := ⟨h.1, fun j z hz => by
  have := h.2 (j + 2) z (by simpa using hz)
  rw [show o + (j + 2) = o + 2 + j by omega] at this
  exact this⟩

set_option maxHeartbeats 4000000 in
theorem l9Same_g (b b' o o' : Nat) (p q : RepQ) (w : World) (hP : Rng w b o [p.vd, p.vb, p.vt, p.vu, p.vn]) (hQ : Rng w b' o' [q.vd, q.vb, q.vt, q.vu, q.vn]) (h : repK.rd w p) (h' : repK.rd w q) (hl : p.n ≤ 1048576) (hl' : q.n ≤ 1048576) :
    Calls Try.prog 81 #[.pointer (some ⟨b, o, none⟩), .pointer (some ⟨b', o', none⟩)] w fun e w' => e = .returned (.bool (sameRep p.e q.e)) ∧ Below w.heap.size w w' := by
  obtain ⟨pvd, pd, pvb, pb, pvt, pt, pvu, pu, pvn, pn⟩ := p
  obtain ⟨p0, p5, rfl⟩ : ∃ a c, pvd = .slice a pd.length c := h.1.shape
  obtain ⟨p1, p6, rfl⟩ : ∃ a c, pvb = .slice a pb.length c := h.2.1.shape
  obtain ⟨p2, p7, rfl⟩ : ∃ a c, pvt = .slice a pt.length c := h.2.2.1.shape
  obtain ⟨p3, p8, rfl⟩ : ∃ a c, pvu = .slice a pu.length c := h.2.2.2.1.shape
  obtain ⟨p4, p9, rfl⟩ : ∃ a c, pvn = .slice a pn.length c := h.2.2.2.2.shape
  obtain ⟨qvd, qd, qvb, qb, qvt, qt, qvu, qu, qvn, qn⟩ := q
  obtain ⟨q0, q5, rfl⟩ : ∃ a c, qvd = .slice a qd.length c := h'.1.shape
  obtain ⟨q1, q6, rfl⟩ : ∃ a c, qvb = .slice a qb.length c := h'.2.1.shape
  obtain ⟨q2, q7, rfl⟩ : ∃ a c, qvt = .slice a qt.length c := h'.2.2.1.shape
  obtain ⟨q3, q8, rfl⟩ : ∃ a c, qvu = .slice a qu.length c := h'.2.2.2.1.shape
  obtain ⟨q4, q9, rfl⟩ : ∃ a c, qvn = .slice a qn.length c := h'.2.2.2.2.shape
  dsimp only [RepQ.n] at hl hl'
  have c0 := fun w h h' => specSameTxns_any (.slice p0 pd.length p5) (.slice q0 qd.length q5) (pd.map TxnQ.e) (qd.map TxnQ.e) w (txnsAt_of' h) (txnsAt_of' h') (by rw [List.length_map, sumA_of']; omega) (by rw [List.length_map, sumA_of']; omega)
  have c1 := fun w h h' => specSameItems_any p1 q1 p6 q6 pb qb w h h' (by omega) (by omega)
  have c2 := fun w h h' => specSameTxns_any (.slice p2 pt.length p7) (.slice q2 qt.length q7) (pt.map TxnQ.e) (qt.map TxnQ.e) w (txnsAt_of' h) (txnsAt_of' h') (by rw [List.length_map, sumA_of']; omega) (by rw [List.length_map, sumA_of']; omega)
  have c3 := fun w h h' => l9SameUndos_any (.slice p3 pu.length p8) (.slice q3 qu.length q8) pu qu w h h' (by omega) (by omega)
  have c4 := fun w h h' => specSameItems_any p4 q4 p9 q9 pn qn w h h' (by omega) (by omega)
  obtain ⟨r0, r1, r2, r3, r4⟩ : txnK.At w (.slice p0 pd.length p5) pd ∧ itemK.At w (.slice p1 pb.length p6) pb ∧ txnK.At w (.slice p2 pt.length p7) pt ∧ ussK.At w (.slice p3 pu.length p8) pu ∧ itemK.At w (.slice p4 pn.length p9) pn := h
  obtain ⟨s0, s1, s2, s3, s4⟩ : txnK.At w (.slice q0 qd.length q5) qd ∧ itemK.At w (.slice q1 qb.length q6) qb ∧ txnK.At w (.slice q2 qt.length q7) qt ∧ ussK.At w (.slice q3 qu.length q8) qu ∧ itemK.At w (.slice q4 qn.length q9) qn := h'
  replace r1 := (itemK_at r1).2
  replace r4 := (itemK_at r4).2
  replace s1 := (itemK_at s1).2
  replace s4 := (itemK_at s4).2
  have E : Hid (sameRep ⟨pd.map TxnQ.e, pb, pt.map TxnQ.e, pu.map USQ.e, pn⟩ ⟨qd.map TxnQ.e, qb, qt.map TxnQ.e, qu.map USQ.e, qn⟩ = (sameTs (pd.map TxnQ.e) (qd.map TxnQ.e) && (sameIs pb qb && (sameTs (pt.map TxnQ.e) (qt.map TxnQ.e) && (sameUss (pu.map USQ.e) (qu.map USQ.e) && sameIs pn qn))))) := show _ = _ from rfl
  dsimp only [RepQ.e]
  generalize sameTs (pd.map TxnQ.e) (qd.map TxnQ.e) = X0 at *
  generalize sameIs pb qb = X1 at *
  generalize sameTs (pt.map TxnQ.e) (qt.map TxnQ.e) = X2 at *
  generalize sameUss (pu.map USQ.e) (qu.map USQ.e) = X3 at *
  generalize sameIs pn qn = X4 at *
  generalize sameRep ⟨pd.map TxnQ.e, pb, pt.map TxnQ.e, pu.map USQ.e, pn⟩ ⟨qd.map TxnQ.e, qb, qt.map TxnQ.e, qu.map USQ.e, qn⟩ = S at *
  have f0 := hP.lat0 _ rfl
  have g0 := hQ.lat0 _ rfl
  have f1 := hP.lat 1 _ rfl
  have g1 := hQ.lat 1 _ rfl
  have f2 := hP.lat 2 _ rfl
  have g2 := hQ.lat 2 _ rfl
  have f3 := hP.lat 3 _ rfl
  have g3 := hQ.lat 3 _ rfl
  have f4 := hP.lat 4 _ rfl
  have g4 := hQ.lat 4 _ rfl
  have hW : Below w.heap.size w w.drew := (Below.refl _ _).drew
  have hnn : Nonempty (Lat w) := ⟨⟨w, Below.refl _ _⟩⟩
  go_enter Try.func81, Try.ntmps81
  go_wp2_with fail
  refine text_begin (S := fun w' => ∃ u : Lat w, w' = u.val) (by kernel_rfl) ?_
  refine sgr [(0, 8)] 46 (by kernel_rfl) ⟨⟨_, hW⟩, rfl⟩ ?_
  simp only [pkE]
  repeat go_big_quiet_step (fail)
  refine wpQuiet_nil ?_
  refine cla 8 (some 13) 102 #[.slice p0 pd.length p5, .slice q0 qd.length q5] 45 (by kernel_rfl) ?_
  refine (c0 _ (r0.below hW) (s0.below hW)).mono ?_
  rintro e w9 ⟨rfl, hb9⟩
  replace hW := hW.trans (hb9.mono hW.size)
  clear hb9
  refine ⟨_, rfl, ⟨⟨_, hW⟩, rfl⟩, ?_⟩
  simp only [Act.put, pjE]
  cases X0
  all_goals
    refine sgr [(9, 9)] 36 (by kernel_rfl) ⟨⟨_, hW⟩, rfl⟩ ?_
    simp only [pkE]
    repeat go_big_quiet_step (fail)
    refine wpQuiet_nil ?_
  focus
    refine ska 18 (some 23) 35 (by kernel_rfl) ⟨⟨_, hW⟩, rfl⟩ ?_
    simp only [Act.put, pjE]
  rotate_left
  focus
    refine cla 18 (some 23) 102 #[.slice p2 pt.length p7, .slice q2 qt.length q7] 35 (by kernel_rfl) ?_
    refine (c2 _ (r2.below hW) (s2.below hW)).mono ?_
    rintro e w9 ⟨rfl, hb9⟩
    replace hW := hW.trans (hb9.mono hW.size)
    clear hb9
    refine ⟨_, rfl, ⟨⟨_, hW⟩, rfl⟩, ?_⟩
    simp only [Act.put, pjE]
    cases X2
  rotate_right
  all_goals
    refine sgr [(19, 10)] 25 (by kernel_rfl) ⟨⟨_, hW⟩, rfl⟩ ?_
    simp only [pkE]
    repeat go_big_quiet_step (fail)
    refine wpQuiet_nil ?_
  iterate 2
    focus
      refine ska 29 (some 34) 24 (by kernel_rfl) ⟨⟨_, hW⟩, rfl⟩ ?_
      simp only [Act.put, pjE]
    rotate_left
  focus
    refine cla 29 (some 34) 104 #[.slice p1 pb.length p6, .slice q1 qb.length q6] 24 (by kernel_rfl) ?_
    refine (c1 _ (r1.below hW) (s1.below hW)).mono ?_
    rintro e w9 ⟨rfl, hb9⟩
    replace hW := hW.trans (hb9.mono hW.size)
    clear hb9
    refine ⟨_, rfl, ⟨⟨_, hW⟩, rfl⟩, ?_⟩
    simp only [Act.put, pjE]
    cases X1
  rotate_right 2
  all_goals
    refine sgr [(30, 10)] 14 (by kernel_rfl) ⟨⟨_, hW⟩, rfl⟩ ?_
    simp only [pkE]
    repeat go_big_quiet_step (fail)
    refine wpQuiet_nil ?_
  iterate 3
    focus
      refine ska 40 (some 45) 13 (by kernel_rfl) ⟨⟨_, hW⟩, rfl⟩ ?_
      simp only [Act.put, pjE]
    rotate_left
  focus
    refine cla 40 (some 45) 104 #[.slice p4 pn.length p9, .slice q4 qn.length q9] 13 (by kernel_rfl) ?_
    refine (c4 _ (r4.below hW) (s4.below hW)).mono ?_
    rintro e w9 ⟨rfl, hb9⟩
    replace hW := hW.trans (hb9.mono hW.size)
    clear hb9
    refine ⟨_, rfl, ⟨⟨_, hW⟩, rfl⟩, ?_⟩
    simp only [Act.put, pjE]
    cases X4
  rotate_right 3
  all_goals
    refine sgr [(41, 10)] 3 (by kernel_rfl) ⟨⟨_, hW⟩, rfl⟩ ?_
    simp only [pkE]
    repeat go_big_quiet_step (fail)
    refine wpQuiet_nil ?_
  iterate 4
    focus
      refine ska 51 (some 56) 2 (by kernel_rfl) ⟨⟨_, hW⟩, rfl⟩ ?_
      simp only [Act.put, pjE]
    rotate_left
  focus
    refine cla 51 (some 56) 105 #[.slice p3 pu.length p8, .slice q3 qu.length q8] 2 (by kernel_rfl) ?_
    refine (c3 _ (r3.below hW) (s3.below hW)).mono ?_
    rintro e w9 ⟨rfl, hb9⟩
    replace hW := hW.trans (hb9.mono hW.size)
    clear hb9
    refine ⟨_, rfl, ⟨⟨_, hW⟩, rfl⟩, ?_⟩
    simp only [Act.put, pjE]
  rotate_right 4
  all_goals
    refine sgr [(52, 2)] 0 (by kernel_rfl) ⟨⟨_, hW⟩, rfl⟩ ?_
    simp only [pkE]
    repeat go_big_quiet_step (fail)
    refine wpQuiet_nil ?_
  all_goals
    refine text_end (by kernel_rfl) ?_
    go_wp2
    go_ret
    exact ⟨by rw [E.out]; simp, hW⟩


set_option maxRecDepth 100000 in
set_option maxHeartbeats 4000000 in
theorem l11Same_g (b b' o o' : Nat) (kn sf : Int) (p : RepQ) (kn' sf' : Int) (q : RepQ) (w : World) (hP : Rng w b o [.int .i64 kn, .int .i64 sf, p.vd, p.vb, p.vt, p.vu, p.vn]) (hQ : Rng w b' o' [.int .i64 kn', .int .i64 sf', q.vd, q.vb, q.vt, q.vu, q.vn]) (h : repK.rd w p) (h' : repK.rd w q) (hl : p.n ≤ 1048576) (hl' : q.n ≤ 1048576) :
    Calls Try.prog 58 #[.pointer (some ⟨b, o, none⟩), .pointer (some ⟨b', o', none⟩)] w fun e w' => e = .returned (.bool (sameN kn sf p.e kn' sf' q.e)) ∧ Below w.heap.size w w' := by
  have hs := fun w (hP : Rng w b o [.int .i64 kn, .int .i64 sf, p.vd, p.vb, p.vt, p.vu, p.vn]) (hQ : Rng w b' o' [.int .i64 kn', .int .i64 sf', q.vd, q.vb, q.vt, q.vu, q.vn]) h h' => l9Same_g b b' (o + 2) (o' + 2) p q w hP.drop2 hQ.drop2 h h' hl hl'
  have hr := fun (w' : World) hb => repK.rd_below (w' := w') h hb
  have hr' := fun (w' : World) hb => repK.rd_below (w' := w') h' hb
  unfold sameN
  generalize sameRep p.e q.e = S at *
  obtain ⟨vd, done, vb, base, vt, tent, vu, undos, vn, now⟩ := p
  obtain ⟨a0, k0, rfl⟩ : ∃ a c, vd = .slice a done.length c := h.1.shape
  obtain ⟨a1, k1, rfl⟩ : ∃ a c, vb = .slice a base.length c := h.2.1.shape
  obtain ⟨a2, k2, rfl⟩ : ∃ a c, vt = .slice a tent.length c := h.2.2.1.shape
  obtain ⟨a3, k3, rfl⟩ : ∃ a c, vu = .slice a undos.length c := h.2.2.2.1.shape
  obtain ⟨a4, k4, rfl⟩ : ∃ a c, vn = .slice a now.length c := h.2.2.2.2.shape
  obtain ⟨vd', done', vb', base', vt', tent', vu', undos', vn', now'⟩ := q
  obtain ⟨a0', k0', rfl⟩ : ∃ a c, vd' = .slice a done'.length c := h'.1.shape
  obtain ⟨a1', k1', rfl⟩ : ∃ a c, vb' = .slice a base'.length c := h'.2.1.shape
  obtain ⟨a2', k2', rfl⟩ : ∃ a c, vt' = .slice a tent'.length c := h'.2.2.1.shape
  obtain ⟨a3', k3', rfl⟩ : ∃ a c, vu' = .slice a undos'.length c := h'.2.2.2.1.shape
  obtain ⟨a4', k4', rfl⟩ : ∃ a c, vn' = .slice a now'.length c := h'.2.2.2.2.shape
  dsimp only at hs hP hQ
  have c0 := hP.lat0 _ rfl
  have c1 := hP.lat 1 _ rfl
  have c2 := hP.lat 2 _ rfl
  have c3 := hP.lat 3 _ rfl
  have c4 := hP.lat 4 _ rfl
  have c5 := hP.lat 5 _ rfl
  have c6 := hP.lat 6 _ rfl
  have d0 := hQ.lat0 _ rfl
  have d1 := hQ.lat 1 _ rfl
  have d2 := hQ.lat 2 _ rfl
  have d3 := hQ.lat 3 _ rfl
  have d4 := hQ.lat 4 _ rfl
  have d5 := hQ.lat 5 _ rfl
  have d6 := hQ.lat 6 _ rfl
  have HS : Hid _ := hs
  have HR : Hid _ := hr
  have HR' : Hid _ := hr'
  clear hs hr hr' hl hl'
  by_cases hk : kn = kn'
  case neg =>
    have ek : (kn == kn') = false := by simpa using hk
    have HE : Hid (((kn == kn') && ((sf == sf') && S)) = false) := show _ = _ by rw [ek]; rfl
    clear hk
    go_enter Try.func58, Try.ntmps58
    go_wp2_with fail
    have hW : Below w.heap.size w w.drew := (Below.refl _ _).drew
    have hnn : Nonempty (Lat w) := ⟨⟨w, Below.refl _ _⟩⟩
    refine text_begin (S := fun w' => ∃ u : Lat w, w' = u.val) (by kernel_rfl) ?_
    refine sgr [(0, 27)] 3 (by kernel_rfl) ⟨⟨_, hW⟩, rfl⟩ ?_
    simp only [pkE]
    repeat go_big_quiet_step (fail)
    refine wpQuiet_nil ?_
    refine ska 27 (some 32) 2 (by kernel_rfl) ⟨⟨_, hW⟩, rfl⟩ ?_
    simp only [Act.put, pjE]
    refine sgr [(28, 2)] 0 (by kernel_rfl) ⟨⟨_, hW⟩, rfl⟩ ?_
    simp only [pkE]
    repeat go_big_quiet_step (fail)
    refine wpQuiet_nil ?_
    refine text_end (by kernel_rfl) ?_
    go_wp2
    go_ret
    exact ⟨by first | (rw [HE.out]; done) | (rw [HE.out]; rfl), hW⟩
  subst hk
  have ek : (kn == kn) = true := by simp
  by_cases hf : sf = sf'
  case neg =>
    have ef : (sf == sf') = false := by simpa using hf
    have HE : Hid (((kn == kn) && ((sf == sf') && S)) = false) := show _ = _ by rw [ek, ef]; rfl
    clear hf
    go_enter Try.func58, Try.ntmps58
    go_wp2_with fail
    have hW : Below w.heap.size w w.drew := (Below.refl _ _).drew
    have hnn : Nonempty (Lat w) := ⟨⟨w, Below.refl _ _⟩⟩
    refine text_begin (S := fun w' => ∃ u : Lat w, w' = u.val) (by kernel_rfl) ?_
    refine sgr [(0, 27)] 3 (by kernel_rfl) ⟨⟨_, hW⟩, rfl⟩ ?_
    simp only [pkE]
    repeat go_big_quiet_step (fail)
    refine wpQuiet_nil ?_
    refine ska 27 (some 32) 2 (by kernel_rfl) ⟨⟨_, hW⟩, rfl⟩ ?_
    simp only [Act.put, pjE]
    refine sgr [(28, 2)] 0 (by kernel_rfl) ⟨⟨_, hW⟩, rfl⟩ ?_
    simp only [pkE]
    repeat go_big_quiet_step (fail)
    refine wpQuiet_nil ?_
    refine text_end (by kernel_rfl) ?_
    go_wp2
    go_ret
    exact ⟨by first | (rw [HE.out]; done) | (rw [HE.out]; rfl), hW⟩
  subst hf
  have ef : (sf == sf) = true := by simp
  have HE : Hid (((kn == kn) && ((sf == sf) && S)) = S) := show _ = _ by rw [ek, ef]; rfl
  go_enter Try.func58, Try.ntmps58
  go_wp2_with fail
  have hW : Below w.heap.size w w.drew := (Below.refl _ _).drew
  have hnn : Nonempty (Lat w) := ⟨⟨w, Below.refl _ _⟩⟩
  refine text_begin (S := fun w' => ∃ u : Lat w, w' = u.val) (by kernel_rfl) ?_
  refine sgr [(0, 27)] 3 (by kernel_rfl) ⟨⟨_, hW⟩, rfl⟩ ?_
  simp only [pkE]
  repeat go_big_quiet_step (fail)
  refine wpQuiet_nil ?_
  refine cla 27 (some 32) 81 #[.pointer (some ⟨b, o + 2, none⟩), .pointer (some ⟨b', o' + 2, none⟩)] 2 (by kernel_rfl) ?_
  refine (HS.out _ (hP.below hW) (hQ.below hW) (HR.out _ hW) (HR'.out _ hW)).mono ?_
  rintro e w9 ⟨rfl, hb9⟩
  replace hW := hW.trans (hb9.mono hW.size)
  clear hb9
  refine ⟨_, rfl, ⟨⟨_, hW⟩, rfl⟩, ?_⟩
  simp only [Act.put, pjE]
  refine sgr [(28, 2)] 0 (by kernel_rfl) ⟨⟨_, hW⟩, rfl⟩ ?_
  simp only [pkE]
  repeat go_big_quiet_step (fail)
  refine wpQuiet_nil ?_
  refine text_end (by kernel_rfl) ?_
  go_wp2
  go_ret
  exact ⟨by first | (rw [HE.out]; done) | (rw [HE.out]; rfl), hW⟩

set_option maxHeartbeats 2000000 in
theorem knowledge_any (kn sf : Int) (a0 a1 a2 a3 a4 : Option Addr) (l0 l1 l2 l3 l4 k0 k1 k2 k3 k4 : Nat) (w : World) :
    Calls Try.prog 63 #[.agg #[.int .i64 kn, .int .i64 sf, .slice a0 l0 k0, .slice a1 l1 k1, .slice a2 l2 k2, .slice a3 l3 k3, .slice a4 l4 k4]] w fun e w' => e = .returned (.agg #[.int .i64 kn, .int .i64 sf]) ∧ Below w.heap.size w w' := by
  go_enter Try.func63, Try.ntmps63
  go_wp2
  exact bodyPost_ret (v := .agg #[.int .i64 kn, .int .i64 sf]) (by simp [results, Try.results63, go_sem]) rfl ⟨rfl, by go_grown⟩

theorem know_g (x y : Operand) (xs ys : Array Value) (w : World) : (eqGuard .eql 121 x y (.agg xs) (.agg ys)).run Try.prog w = .ok () w := run_eqGuard_agg w .eql 121 x y xs ys (by kernel_rfl)

theorem know_run (x y : Operand) (k s k' s' : Int) (w : World) : (eqGuard .eql 121 x y (.agg #[.int .i64 k, .int .i64 s]) (.agg #[.int .i64 k', .int .i64 s']) >>= fun _ => binOp .eql 121 (.agg #[.int .i64 k, .int .i64 s]) (.agg #[.int .i64 k', .int .i64 s'])).run Try.prog w = .ok (.bool ((k == k') && (s == s'))) w := by
  rw [Sem.run_bind, know_g]
  show (binOp .eql 121 _ _).run Try.prog w = _
  rw [run_eql_struct, run_equalIn_struct (P := Try.prog) w 9999 121 _ _ (by kernel_rfl) (by kernel_rfl)]
  have c1 : Try.prog.cellsOf 2 = 1 := by kernel_rfl
  cases h0 : (k == k') <;> cases h1 : (s == s') <;> simp [Program.fieldsOf, Try.underlying121, Op.eqFields, go_sem, Try.underlying2, h0, h1, c1]

set_option maxHeartbeats 8000000 in
theorem isSameMember_any (kn sf : Int) (p : RepQ) (kn' sf' : Int) (q : RepQ) (w : World) (h : repK.rd w p) (h' : repK.rd w q) (hl : p.n ≤ 1048576) (hl' : q.n ≤ 1048576) :
    Calls Try.prog 35 #[.agg #[.int .i64 kn, .int .i64 sf, p.vd, p.vb, p.vt, p.vu, p.vn], .agg #[.int .i64 kn', .int .i64 sf', q.vd, q.vb, q.vt, q.vu, q.vn]] w fun e w' => e = .returned (.bool (sameN kn sf p.e kn' sf' q.e)) ∧ Below w.heap.size w w' := by
  have hs := fun w h h' => implSameReplicas_any p q w h h' hl hl'
  have hr := fun (w' : World) hb => repK.rd_below (w' := w') h hb
  have hr' := fun (w' : World) hb => repK.rd_below (w' := w') h' hb
  have HSN : Hid (sameN kn sf p.e kn' sf' q.e = (((kn == kn') && (sf == sf')) && sameRep p.e q.e)) := show _ = _ by unfold sameN; rw [Bool.and_assoc]
  generalize sameN kn sf p.e kn' sf' q.e = E at *
  generalize sameRep p.e q.e = S at *
  obtain ⟨vd, done, vb, base, vt, tent, vu, undos, vn, now⟩ := p
  obtain ⟨a0, k0, rfl⟩ : ∃ a c, vd = .slice a done.length c := h.1.shape
  obtain ⟨a1, k1, rfl⟩ : ∃ a c, vb = .slice a base.length c := h.2.1.shape
  obtain ⟨a2, k2, rfl⟩ : ∃ a c, vt = .slice a tent.length c := h.2.2.1.shape
  obtain ⟨a3, k3, rfl⟩ : ∃ a c, vu = .slice a undos.length c := h.2.2.2.1.shape
  obtain ⟨a4, k4, rfl⟩ : ∃ a c, vn = .slice a now.length c := h.2.2.2.2.shape
  obtain ⟨vd', done', vb', base', vt', tent', vu', undos', vn', now'⟩ := q
  obtain ⟨a0', k0', rfl⟩ : ∃ a c, vd' = .slice a done'.length c := h'.1.shape
  obtain ⟨a1', k1', rfl⟩ : ∃ a c, vb' = .slice a base'.length c := h'.2.1.shape
  obtain ⟨a2', k2', rfl⟩ : ∃ a c, vt' = .slice a tent'.length c := h'.2.2.1.shape
  obtain ⟨a3', k3', rfl⟩ : ∃ a c, vu' = .slice a undos'.length c := h'.2.2.2.1.shape
  obtain ⟨a4', k4', rfl⟩ : ∃ a c, vn' = .slice a now'.length c := h'.2.2.2.2.shape
  dsimp only at hs
  have hB : Below w.heap.size w ((w.alloc (.cells #[.int .i64 kn, .int .i64 sf, .slice a0 done.length k0, .slice a1 base.length k1, .slice a2 tent.length k2, .slice a3 undos.length k3, .slice a4 now.length k4] 79)).alloc (.cells #[.int .i64 kn', .int .i64 sf', .slice a0' done'.length k0', .slice a1' base'.length k1', .slice a2' tent'.length k2', .slice a3' undos'.length k3', .slice a4' now'.length k4'] 79)) := by go_grown
  have B := (Blk.new w 79 #[.int .i64 kn, .int .i64 sf, .slice a0 done.length k0, .slice a1 base.length k1, .slice a2 tent.length k2, .slice a3 undos.length k3, .slice a4 now.length k4]).below (w' := ((w.alloc (.cells #[.int .i64 kn, .int .i64 sf, .slice a0 done.length k0, .slice a1 base.length k1, .slice a2 tent.length k2, .slice a3 undos.length k3, .slice a4 now.length k4] 79)).alloc (.cells #[.int .i64 kn', .int .i64 sf', .slice a0' done'.length k0', .slice a1' base'.length k1', .slice a2' tent'.length k2', .slice a3' undos'.length k3', .slice a4' now'.length k4'] 79))) (by go_grown)
  have B' := Blk.new (w.alloc (.cells #[.int .i64 kn, .int .i64 sf, .slice a0 done.length k0, .slice a1 base.length k1, .slice a2 tent.length k2, .slice a3 undos.length k3, .slice a4 now.length k4] 79)) 79 #[.int .i64 kn', .int .i64 sf', .slice a0' done'.length k0', .slice a1' base'.length k1', .slice a2' tent'.length k2', .slice a3' undos'.length k3', .slice a4' now'.length k4']
  simp only [World.size_alloc] at B'
  have HS : Hid _ := hs
  have HR : Hid _ := hr
  have HR' : Hid _ := hr'
  clear hs hr hr' hl hl' h h'
  have hkA := fun w => knowledge_any kn sf a0 a1 a2 a3 a4 done.length base.length tent.length undos.length now.length k0 k1 k2 k3 k4 w
  have hkB := fun w => knowledge_any kn' sf' a0' a1' a2' a3' a4' done'.length base'.length tent'.length undos'.length now'.length k0' k1' k2' k3' k4' w
  have HKA : Hid _ := hkA
  have HKB : Hid _ := hkB
  clear hkA hkB
  go_enter Try.func35, Try.ntmps35
  go_wp2_with fail
  generalize ((w.alloc (.cells #[.int .i64 kn, .int .i64 sf, .slice a0 done.length k0, .slice a1 base.length k1, .slice a2 tent.length k2, .slice a3 undos.length k3, .slice a4 now.length k4] 79)).alloc (.cells #[.int .i64 kn', .int .i64 sf', .slice a0' done'.length k0', .slice a1' base'.length k1', .slice a2' tent'.length k2', .slice a3' undos'.length k3', .slice a4' now'.length k4'] 79)) = W at *
  obtain ⟨q0, q1, q2, q3, q4, q5, q6⟩ := B.lts7
  have r0 := B'.lat 0 _ rfl
  have r1 := B'.lat 1 _ rfl
  have r2 := B'.lat 2 _ rfl
  have r3 := B'.lat 3 _ rfl
  have r4 := B'.lat 4 _ rfl
  have r5 := B'.lat 5 _ rfl
  have r6 := B'.lat 6 _ rfl
  have hW : Below W.heap.size W W.drew := (Below.refl _ _).drew
  have hnn : Nonempty (Lat W) := ⟨⟨W, Below.refl _ _⟩⟩
  have hn : ∀ u : Lat W, (eqGuard .eql 121 (.tmp 6) (.tmp 8) (.agg #[.int .i64 kn, .int .i64 sf]) (.agg #[.int .i64 kn', .int .i64 sf']) >>= fun _ => binOp .eql 121 (.agg #[.int .i64 kn, .int .i64 sf]) (.agg #[.int .i64 kn', .int .i64 sf'])).run Try.prog u.val = .ok (.bool ((kn == kn') && (sf == sf'))) u.val := fun u => know_run _ _ kn sf kn' sf' u.val
  generalize ((kn == kn') && (sf == sf')) = X at *
  have HN : Hid _ := hn
  clear hn
  refine text_begin (S := fun w' => ∃ u : Lat W, w' = u.val) (by kernel_rfl) ?_
  refine sgr [(0, 1), (2, 1)] 11 (by kernel_rfl) ⟨⟨_, hW⟩, rfl⟩ ?_
  simp only [pkE]
  repeat go_big_quiet_step (fail)
  refine wpQuiet_nil ?_
  refine cla 1 (some 6) 63 #[.agg #[.int .i64 kn, .int .i64 sf, .slice a0 done.length k0, .slice a1 base.length k1, .slice a2 tent.length k2, .slice a3 undos.length k3, .slice a4 now.length k4]] 10 (by kernel_rfl) ?_
  refine (HKA.out _).mono ?_
  rintro e w2 ⟨rfl, hb⟩
  replace hW := hW.trans (hb.mono hW.size)
  clear hb
  refine ⟨_, rfl, ⟨⟨_, hW⟩, rfl⟩, ?_⟩
  simp only [Act.put, pjE]
  refine cla 3 (some 8) 63 #[.agg #[.int .i64 kn', .int .i64 sf', .slice a0' done'.length k0', .slice a1' base'.length k1', .slice a2' tent'.length k2', .slice a3' undos'.length k3', .slice a4' now'.length k4']] 9 (by kernel_rfl) ?_
  refine (HKB.out _).mono ?_
  rintro e w3 ⟨rfl, hb⟩
  replace hW := hW.trans (hb.mono hW.size)
  clear hb
  refine ⟨_, rfl, ⟨⟨_, hW⟩, rfl⟩, ?_⟩
  simp only [Act.put, pjE]
  refine qta 4 (some 9) (.bool X) 8 (by kernel_rfl) (fun u hu => ?_) ⟨⟨_, hW⟩, rfl⟩ ?_
  · obtain ⟨u, rfl⟩ := hu
    refine Eq.trans (b := some (((eqGuard .eql 121 (.tmp 6) (.tmp 8) (.agg #[.int .i64 kn, .int .i64 sf]) (.agg #[.int .i64 kn', .int .i64 sf']) >>= fun _ => binOp .eql 121 (.agg #[.int .i64 kn, .int .i64 sf]) (.agg #[.int .i64 kn', .int .i64 sf'])) >>= fun x => pure (Next.value x) : Sem Next).run Try.prog u.val)) (by kernel_rfl) ?_
    rw [Sem.run_bind, HN.out u]
    rfl
  simp only [Act.put, pjE]
  cases X with
  | false =>
    have HE : Hid (E = false) := show _ = _ by rw [HSN.out]; rfl
    refine sgr [(5, 5)] 3 (by kernel_rfl) ⟨⟨_, hW⟩, rfl⟩ ?_
    simp only [pkE]
    repeat go_big_quiet_step (fail)
    refine wpQuiet_nil ?_
    refine ska 10 (some 15) 2 (by kernel_rfl) ⟨⟨_, hW⟩, rfl⟩ ?_
    simp only [Act.put, pjE]
    refine sgr [(11, 2)] 0 (by kernel_rfl) ⟨⟨_, hW⟩, rfl⟩ ?_
    simp only [pkE]
    repeat go_big_quiet_step (fail)
    refine wpQuiet_nil ?_
    refine text_end (by kernel_rfl) ?_
    replace hB := hB.trans (hW.mono hB.size)
    clear q0 q1 q2 q3 q4 q5 q6 r0 r1 r2 r3 r4 r5 r6 hW hnn
    go_wp2
    go_ret
    exact ⟨by first | (rw [HE.out]; done) | (rw [HE.out]; rfl), hB⟩
  | true =>
    have HE : Hid (E = S) := show _ = _ by rw [HSN.out]; rfl
    refine sgr [(5, 5)] 3 (by kernel_rfl) ⟨⟨_, hW⟩, rfl⟩ ?_
    simp only [pkE]
    repeat go_big_quiet_step (fail)
    refine wpQuiet_nil ?_
    refine cla 10 (some 15) 64 #[.agg #[.slice a0 done.length k0, .slice a1 base.length k1, .slice a2 tent.length k2, .slice a3 undos.length k3, .slice a4 now.length k4], .agg #[.slice a0' done'.length k0', .slice a1' base'.length k1', .slice a2' tent'.length k2', .slice a3' undos'.length k3', .slice a4' now'.length k4']] 2 (by kernel_rfl) ?_
    refine (HS.out _ (HR.out _ (hB.trans (hW.mono hB.size))) (HR'.out _ (hB.trans (hW.mono hB.size)))).mono ?_
    rintro e w4 ⟨rfl, hb⟩
    replace hW := hW.trans (hb.mono hW.size)
    clear hb
    refine ⟨_, rfl, ⟨⟨_, hW⟩, rfl⟩, ?_⟩
    simp only [Act.put, pjE]
    refine sgr [(11, 2)] 0 (by kernel_rfl) ⟨⟨_, hW⟩, rfl⟩ ?_
    simp only [pkE]
    repeat go_big_quiet_step (fail)
    refine wpQuiet_nil ?_
    refine text_end (by kernel_rfl) ?_
    replace hB := hB.trans (hW.mono hB.size)
    clear q0 q1 q2 q3 q4 q5 q6 r0 r1 r2 r3 r4 r5 r6 hW hnn
    go_wp2
    go_ret
    exact ⟨by first | (rw [HE.out]; done) | (rw [HE.out]; rfl), hB⟩

end Go.Proofs.Ytkkdjgiencilbaa

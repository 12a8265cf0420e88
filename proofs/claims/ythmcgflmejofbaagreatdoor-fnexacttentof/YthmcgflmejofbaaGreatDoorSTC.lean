/- TentOf of the model. No condition. -/
import Derived.Test.YthmcgflmejofbaaGreatDoorSTB
import Derived.Test.YthmcgflmejofbaaGreatDoorSRBF
namespace Go.Proofs.YthmcgflmejofbaaGreatDoor
open Go.RowKit
open Go.BigFrame
set_option linter.unusedVariables false
set_option maxRecDepth 100000
set_option linter.unusedSimpArgs false

theorem ten_at : ∀ (D : List TxnD) (xs : List ItemD) (x : Int), repL (askI x) (deedsE xs D) = if idxN (D.map TxnD.id) x < D.length then (0, (allCd xs D).getD (idxN (D.map TxnD.id) x) 0, (allVl xs D).getD (idxN (D.map TxnD.id) x) 0) else (4, 0, 0)
  | [], xs, x => by simp [deedsE, repL]
  | t :: r, xs, x => by
    by_cases h : t.id = x
    · simp [deedsE, repL, askI, h, idxN, allCd, allVl]
    · simp [deedsE, repL, askI, h, idxN, allCd, allVl, ten_at r]
theorem tent_F {r : RepE} (h : repF r = 0) : (∀ t ∈ r.tent, t.F = 0) ∧ r.tent.length ≤ 8 ∧ r.base = allI [] r.done ∧ itemsF r.base = 0 := by
  have a := ((lst_iff _).1 (rep_zero h).2.1).2.1
  have b := (rep_zero h).2.2
  unfold sameRep at b
  simp only [Bool.and_eq_true] at b
  have c := (sameIs_eq b.2.1).symm
  have g := allI_good (xs := []) (by simp) nil_good (fun t ht => a t (List.mem_append_left _ ht))
  refine ⟨fun t ht => a t (List.mem_append_right _ ht), (rep_zero h).1.2, c, ?_⟩
  rw [c]
  exact F_of_good g.1 g.2

set_option maxRecDepth 100000 in
set_option maxHeartbeats 8000000 in
theorem specTentOf_any (p : RepQ) (x : Int) (w : World) (h : repK.own w p) (hl : p.n ≤ 1048576) :
    Calls Tryz.prog 37 #[.agg #[p.vd, p.vb, p.vt, p.vu, p.vn], .int .i64 x] w fun e w' => e = .returned (.agg #[.int .i64 (tenR p.e x).1, .int .i64 (tenR p.e x).2.1, .int .i64 (tenR p.e x).2.2]) ∧ Below w.heap.size w w' := by
  have hf := fun b w hB h => l9Fault_any b p w hB h hl
  have hr := fun (w' : World) (hb : Below w.heap.size w w') => repK.own_out (F := []) (w' := w') h (Out.of_below hb) (fun _ _ => by simp)
  have HE : Hid ((repF p.e = 0 → tenR p.e x = repL (askI x) (deedsE p.e.base p.e.tent) ∧ (∀ t ∈ p.e.tent, t.F = 0) ∧ p.e.tent.length ≤ 8 ∧ itemsF p.e.base = 0) ∧ (repF p.e ≠ 0 → tenR p.e x = (repF p.e, 0, 0))) := ⟨fun h0 => ⟨(if_pos h0).trans (by rw [(tent_F h0).2.2.1]), (tent_F h0).1, (tent_F h0).2.1, (tent_F h0).2.2.2⟩, fun h0 => if_neg h0⟩
  generalize tenR p.e x = E at *
  generalize repF p.e = c at *
  obtain ⟨pvd, pd, pvb, pb, pvt, pt, pvu, pu, pvn, pn⟩ := p
  obtain ⟨p0, p5, rfl⟩ : ∃ a c, pvd = .slice a pd.length c := h.1.shape
  obtain ⟨p1, p6, rfl⟩ : ∃ a c, pvb = .slice a pb.length c := h.2.1.shape
  obtain ⟨p2, p7, rfl⟩ : ∃ a c, pvt = .slice a pt.length c := h.2.2.1.shape
  obtain ⟨p3, p8, rfl⟩ : ∃ a c, pvu = .slice a pu.length c := h.2.2.2.1.shape
  obtain ⟨p4, p9, rfl⟩ : ∃ a c, pvn = .slice a pn.length c := h.2.2.2.2.shape
  replace HE : Hid ((c = 0 → E = repL (askI x) (deedsE pb (pt.map TxnQ.e)) ∧ (∀ t ∈ pt.map TxnQ.e, t.F = 0) ∧ (pt.map TxnQ.e).length ≤ 8 ∧ itemsF pb = 0) ∧ (c ≠ 0 → E = (c, 0, 0))) := HE
  dsimp only at hf
  have hr : ∀ w' : World, Below w.heap.size w w' → repK.own w' (⟨.slice p0 pd.length p5, pd, .slice p1 pb.length p6, pb, .slice p2 pt.length p7, pt, .slice p3 pu.length p8, pu, .slice p4 pn.length p9, pn⟩ : RepQ) := hr
  have hr1 : ∀ w' : World, Below w.heap.size w w' → txnK.At w' (.slice p2 pt.length p7) pt := fun w' hb => (hr w' hb).2.2.1.at
  have hr2 : ∀ w' : World, Below w.heap.size w w' → ItemRow w' p1 pb := fun w' hb => (itemK_at (hr w' hb).2.1.at).2
  have hN1 : Nice p1 pb.length p6 := h.2.1.niceV _ _ _ rfl
  have hb0 : Below w.heap.size w ((w.alloc (.cells #[.slice p0 pd.length p5, .slice p1 pb.length p6, .slice p2 pt.length p7, .slice p3 pu.length p8, .slice p4 pn.length p9] 28)).alloc (.cells #[.int .i64 0, .int .i64 0, .int .i64 0] 60)) := by go_grown
  have B := (Blk.new w 28 #[.slice p0 pd.length p5, .slice p1 pb.length p6, .slice p2 pt.length p7, .slice p3 pu.length p8, .slice p4 pn.length p9]).below (show Below (w.alloc (.cells #[.slice p0 pd.length p5, .slice p1 pb.length p6, .slice p2 pt.length p7, .slice p3 pu.length p8, .slice p4 pn.length p9] 28)).heap.size (w.alloc (.cells #[.slice p0 pd.length p5, .slice p1 pb.length p6, .slice p2 pt.length p7, .slice p3 pu.length p8, .slice p4 pn.length p9] 28)) ((w.alloc (.cells #[.slice p0 pd.length p5, .slice p1 pb.length p6, .slice p2 pt.length p7, .slice p3 pu.length p8, .slice p4 pn.length p9] 28)).alloc (.cells #[.int .i64 0, .int .i64 0, .int .i64 0] 60)) by go_grown)
  have RB := Blk.new (w.alloc (.cells #[.slice p0 pd.length p5, .slice p1 pb.length p6, .slice p2 pt.length p7, .slice p3 pu.length p8, .slice p4 pn.length p9] 28)) 60 #[.int .i64 0, .int .i64 0, .int .i64 0]
  simp only [World.size_alloc] at RB
  have hg9 : w.heap.size ≤ w.heap.size + 1 := by omega
  go_enter Tryz.func37, Tryz.ntmps37
  go_wp2_with fail
  have hr0 := hr _ hb0
  generalize ((w.alloc (.cells #[.slice p0 pd.length p5, .slice p1 pb.length p6, .slice p2 pt.length p7, .slice p3 pu.length p8, .slice p4 pn.length p9] 28)).alloc (.cells #[.int .i64 0, .int .i64 0, .int .i64 0] 60)) = W at *
  generalize hgg : w.heap.size + 1 = g at *
  clear hgg
  refine (hf _ W B hr0).mono ?_
  rintro e w2 ⟨rfl, hb⟩
  replace B := B.below hb
  replace RB := RB.below hb
  replace hb0 := hb0.trans (hb.mono hb0.size)
  clear hb hf hr0
  by_cases hc : c = 0
  · obtain ⟨hE, hF, hl8, hi0⟩ := HE.out.1 hc
    subst hc
    rw [List.length_map] at hl8
    have hids := ids_of hF (by rw [List.length_map]; omega)
    obtain ⟨z1, z2, z3, z4⟩ := ea_ok (xs := pb) hi0 hids
    have hc3 := fun w h h' => l3All_any p1 p6 pb (.slice p2 pt.length p7) (pt.map TxnQ.e) w h hN1 (txnsAt_of' h') hi0 hids
    rw [z1, z2, z3, z4] at hc3
    have hci := fun w h => l2Ids_any (.slice p2 pt.length p7) (pt.map TxnQ.e) w (txnsAt_of' h) (by rw [List.length_map]; omega)
    rw [ten_at, List.length_map] at hE
    have HLC : Hid ((allCd pb (pt.map TxnQ.e)).length = pt.length) := show _ = _ by rw [allCd_length, List.length_map]
    have HLV : Hid ((allVl pb (pt.map TxnQ.e)).length = pt.length) := show _ = _ by rw [allVl_length, List.length_map]
    have HLI : Hid (((pt.map TxnQ.e).map TxnD.id).length = pt.length) := show _ = _ by rw [List.length_map, List.length_map]
    generalize allCd pb (pt.map TxnQ.e) = CD at *
    generalize allVl pb (pt.map TxnQ.e) = VL at *
    generalize allI pb (pt.map TxnQ.e) = YS at *
    generalize (pt.map TxnQ.e).map TxnD.id = LI at *
    have HEE : Hid _ := hE
    clear HE hE hF hids z1 z2 z3 z4 hi0
    have q1 := B.cell 1 _ rfl
    have q2 := B.cell 2 _ rfl
    go_wp2_with fail
    clear q1 q2
    refine (hc3 w2 (hr2 w2 hb0) (hr1 w2 hb0)).mono ?_
    rintro e w3 ⟨b1, c1, b2, c2, b3, c3, rfl, hA, hb⟩
    replace B := B.below hb
    replace RB := RB.below hb
    replace hb0 := hb0.trans (hb.mono hb0.size)
    have RA := hA.row
    clear hb hc3 hA
    have hbA : Below w3.heap.size w3 (w3.alloc (.cells #[.int .i64 0, .slice b1 CD.length c1, .slice b2 VL.length c2, .slice b3 YS.length c3] 51)) := by go_grown
    have AB := Blk.new w3 51 #[.int .i64 0, .slice b1 CD.length c1, .slice b2 VL.length c2, .slice b3 YS.length c3]
    replace B := B.below hbA
    replace RB := RB.below hbA
    replace RA := RA.below hbA
    replace hb0 := hb0.trans (hbA.mono hb0.size)
    clear hbA
    have q2 := B.cell 2 _ rfl
    go_wp2_with fail
    generalize w3.alloc (.cells #[.int .i64 0, .slice b1 CD.length c1, .slice b2 VL.length c2, .slice b3 YS.length c3] 51) = w4 at *
    generalize w3.heap.size = ga at *
    clear q2
    refine (hci w4 (hr1 w4 hb0)).mono ?_
    rintro e w5 ⟨ib, ic, rfl, oi, hb⟩
    replace RB := RB.below hb
    replace AB := AB.below hb
    replace RA := RA.below hb
    replace hb0 := hb0.trans (hb.mono hb0.size)
    have hfi := l1Find_any ib ic LI x w5 (Row.own oi) (by rw [HLI.out]; omega)
    clear hb hci oi B hr hr1 hr2
    go_wp2_with fail
    refine hfi.mono ?_
    rintro e w6 ⟨rfl, rfl⟩
    clear hfi
    by_cases hk : idxN LI x < pt.length
    · have E1 : Hid (E = (0, CD.getD (idxN LI x) 0, VL.getD (idxN LI x) 0)) := by
        show E = _
        rw [HEE.out, if_pos hk]
      have hix : idxI LI x = (idxN LI x : Int) := if_pos (by rw [HLI.out]; exact hk)
      rw [hix]
      clear HEE hix
      generalize idxN LI x = k at *
      obtain ⟨d1, o1, rfl, _, cc1⟩ := RA.r1 k (by rw [HLC.out]; exact hk)
      obtain ⟨d2, o2, rfl, _, cc2⟩ := RA.r2 k (by rw [HLV.out]; exact hk)
      have hk1 : (k : Int) < (CD.length : Int) := by rw [HLC.out]; omega
      have hk2 : (k : Int) < (VL.length : Int) := by rw [HLV.out]; omega
      clear HLC HLV RA HLI
      generalize CD.getD k 0 = cd at *
      generalize VL.getD k 0 = vl at *
      generalize CD.length = n1 at *
      generalize VL.length = n2 at *
      have g1 := AB.cell 1 _ rfl
      have g2 := AB.cell 2 _ rfl
      have r0 := RB.cell 0 _ rfl
      have r1 := RB.cell 1 _ rfl
      have r2 := RB.cell 2 _ rfl
      have f0 := RB.frozen 0
      have f1 := RB.frozen 1
      have f2 := RB.frozen 2
      go_wp2
      go_region
      go_wp2
      exact bodyPost_ret (v := .agg #[.int .i64 0, .int .i64 cd, .int .i64 vl]) (by simp [results, Tryz.results37, go_sem, r0, r1, r2]) rfl ⟨by rw [E1.out], ((((hb0.drew.setCell (p := ⟨g, 0, none⟩) hg9 _).setCell (p := ⟨g, 1, none⟩) hg9 _).setCell (p := ⟨g, 2, none⟩) hg9 _))⟩
    · have E1 : Hid (E = (4, 0, 0)) := by
        show E = _
        rw [HEE.out, if_neg hk]
      have hix : idxI LI x = -1 := if_neg (by rw [HLI.out]; exact hk)
      rw [hix]
      clear HEE hix HLC HLV RA HLI
      have r0 := RB.cell 0 _ rfl
      have r1 := RB.cell 1 _ rfl
      have r2 := RB.cell 2 _ rfl
      have f0 := RB.frozen 0
      have f1 := RB.frozen 1
      have f2 := RB.frozen 2
      go_wp2
      exact bodyPost_ret (v := .agg #[.int .i64 4, .int .i64 0, .int .i64 0]) (by simp [results, Tryz.results37, go_sem, r0, r1, r2]) rfl ⟨by rw [E1.out], ((hb0.setCell (p := ⟨g, 0, none⟩) hg9 _).setCell (p := ⟨g, 1, none⟩) hg9 _).setCell (p := ⟨g, 2, none⟩) hg9 _⟩
  · have E1 : Hid (E = (c, 0, 0)) := HE.out.2 hc
    have hC' : (c != 0) = true := by simpa using hc
    clear HE
    have r0 := RB.cell 0 _ rfl
    have r1 := RB.cell 1 _ rfl
    have r2 := RB.cell 2 _ rfl
    have f0 := RB.frozen 0
    have f1 := RB.frozen 1
    have f2 := RB.frozen 2
    go_wp2
    exact bodyPost_ret (v := .agg #[.int .i64 c, .int .i64 0, .int .i64 0]) (by simp [results, Tryz.results37, go_sem, r0, r1, r2]) rfl ⟨by rw [E1.out], ((hb0.setCell (p := ⟨g, 0, none⟩) hg9 _).setCell (p := ⟨g, 1, none⟩) hg9 _).setCell (p := ⟨g, 2, none⟩) hg9 _⟩

end Go.Proofs.YthmcgflmejofbaaGreatDoor

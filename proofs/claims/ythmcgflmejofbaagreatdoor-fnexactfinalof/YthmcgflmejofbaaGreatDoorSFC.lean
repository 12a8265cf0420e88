/- FinalOf of the model. No condition. -/
import Derived.Test.YthmcgflmejofbaaGreatDoorSFB
import Derived.Test.YthmcgflmejofbaaGreatDoorSRBF
namespace Go.Proofs.YthmcgflmejofbaaGreatDoor
open Go.RowKit
open Go.BigFrame
set_option linter.unusedVariables false
set_option maxRecDepth 100000
set_option linter.unusedSimpArgs false

theorem deeds_at : ∀ (D : List TxnD) (xs : List ItemD) (k : Nat) (h : k < D.length), ∃ u, (deedsE xs D).drop k = (D[k], (allCd xs D).getD k 0, (allVl xs D).getD k 0, u) :: (deedsE xs D).drop (k + 1)
  | [], _, k, h => absurd h (by simp)
  | t :: r, xs, 0, h => ⟨runU xs t.acts, by simp [deedsE, allCd, allVl]⟩
  | t :: r, xs, k + 1, h => by
    obtain ⟨u, e⟩ := deeds_at r (nextI xs t) k (by simpa using h)
    exact ⟨u, by simpa [deedsE, allCd, allVl] using e⟩
theorem sz_reply : (Tryz.prog.info? 60).map (·.size) = some 3 := by kernel_rfl
theorem done_F {r : RepE} (h : repF r = 0) : (∀ t ∈ r.done, t.F = 0) ∧ (∀ t ∈ r.tent, t.F = 0) := by
  have := ((lst_iff _).1 (rep_zero h).2.1).2.1
  exact ⟨fun t ht => this t (List.mem_append_left _ ht), fun t ht => this t (List.mem_append_right _ ht)⟩

set_option maxRecDepth 100000 in
set_option maxHeartbeats 8000000 in
theorem specFinalOf_any (p : RepQ) (x y : Int) (w : World) (h : repK.own w p) (hl : p.n ≤ 1048576) :
    Calls Tryz.prog 36 #[.agg #[p.vd, p.vb, p.vt, p.vu, p.vn], .int .i64 x, .int .i64 y] w fun e w' => e = .returned (.agg #[.int .i64 (finR p.e x y).1, .int .i64 (finR p.e x y).2.1, .int .i64 (finR p.e x y).2.2]) ∧ Below w.heap.size w w' := by
  have hf := fun b w hB h => l9Fault_any b p w hB h hl
  have hr := fun (w' : World) (hb : Below w.heap.size w w') => repK.own_out (F := []) (w' := w') h (Out.of_below hb) (fun _ _ => by simp)
  have HE : Hid ((repF p.e = 0 → finR p.e x y = repL (askS x y) (deedsE [] p.e.done) ∧ (∀ t ∈ p.e.done, t.F = 0) ∧ p.e.done.length ≤ 16) ∧ (repF p.e ≠ 0 → finR p.e x y = (repF p.e, 0, 0))) := ⟨fun h0 => ⟨if_pos h0, (done_F h0).1, (rep_zero h0).1.1⟩, fun h0 => if_neg h0⟩
  generalize finR p.e x y = E at *
  generalize repF p.e = c at *
  obtain ⟨pvd, pd, pvb, pb, pvt, pt, pvu, pu, pvn, pn⟩ := p
  obtain ⟨p0, p5, rfl⟩ : ∃ a c, pvd = .slice a pd.length c := h.1.shape
  obtain ⟨p1, p6, rfl⟩ : ∃ a c, pvb = .slice a pb.length c := h.2.1.shape
  obtain ⟨p2, p7, rfl⟩ : ∃ a c, pvt = .slice a pt.length c := h.2.2.1.shape
  obtain ⟨p3, p8, rfl⟩ : ∃ a c, pvu = .slice a pu.length c := h.2.2.2.1.shape
  obtain ⟨p4, p9, rfl⟩ : ∃ a c, pvn = .slice a pn.length c := h.2.2.2.2.shape
  replace HE : Hid ((c = 0 → E = repL (askS x y) (deedsE [] (pd.map TxnQ.e)) ∧ (∀ t ∈ pd.map TxnQ.e, t.F = 0) ∧ (pd.map TxnQ.e).length ≤ 16) ∧ (c ≠ 0 → E = (c, 0, 0))) := HE
  dsimp only at hf
  have hr : ∀ w' : World, Below w.heap.size w w' → repK.own w' (⟨.slice p0 pd.length p5, pd, .slice p1 pb.length p6, pb, .slice p2 pt.length p7, pt, .slice p3 pu.length p8, pu, .slice p4 pn.length p9, pn⟩ : RepQ) := hr
  have hr1 : ∀ w' : World, Below w.heap.size w w' → txnK.At w' (.slice p0 pd.length p5) pd := fun w' hb => (hr w' hb).1.at
  have hb0 : Below w.heap.size w ((w.alloc (.cells #[.slice p0 pd.length p5, .slice p1 pb.length p6, .slice p2 pt.length p7, .slice p3 pu.length p8, .slice p4 pn.length p9] 28)).alloc (.cells #[.int .i64 0, .int .i64 0, .int .i64 0] 60)) := by go_grown
  have B := (Blk.new w 28 #[.slice p0 pd.length p5, .slice p1 pb.length p6, .slice p2 pt.length p7, .slice p3 pu.length p8, .slice p4 pn.length p9]).below (show Below (w.alloc (.cells #[.slice p0 pd.length p5, .slice p1 pb.length p6, .slice p2 pt.length p7, .slice p3 pu.length p8, .slice p4 pn.length p9] 28)).heap.size (w.alloc (.cells #[.slice p0 pd.length p5, .slice p1 pb.length p6, .slice p2 pt.length p7, .slice p3 pu.length p8, .slice p4 pn.length p9] 28)) ((w.alloc (.cells #[.slice p0 pd.length p5, .slice p1 pb.length p6, .slice p2 pt.length p7, .slice p3 pu.length p8, .slice p4 pn.length p9] 28)).alloc (.cells #[.int .i64 0, .int .i64 0, .int .i64 0] 60)) by go_grown)
  have RB := Blk.new (w.alloc (.cells #[.slice p0 pd.length p5, .slice p1 pb.length p6, .slice p2 pt.length p7, .slice p3 pu.length p8, .slice p4 pn.length p9] 28)) 60 #[.int .i64 0, .int .i64 0, .int .i64 0]
  simp only [World.size_alloc] at RB
  have hg9 : w.heap.size ≤ w.heap.size + 1 := by omega
  go_enter Tryz.func36, Tryz.ntmps36
  go_wp2_with fail
  have hr0 := hr _ hb0
  generalize ((w.alloc (.cells #[.slice p0 pd.length p5, .slice p1 pb.length p6, .slice p2 pt.length p7, .slice p3 pu.length p8, .slice p4 pn.length p9] 28)).alloc (.cells #[.int .i64 0, .int .i64 0, .int .i64 0] 60)) = W at *
  generalize hgg : w.heap.size + 1 = g at *
  clear hgg
  refine (hf _ W B hr0).mono ?_
  rintro e w2 ⟨rfl, hb⟩
  replace B := B.below hb
  replace RB := RB.below hb
  replace hb0 := hb0.trans (hb.mono hb0.size)
  clear hb hf hr0
  by_cases hc : c = 0
  · obtain ⟨hE, hF, hl16⟩ := HE.out.1 hc
    subst hc
    rw [List.length_map] at hl16
    have hids := ids_of hF (by rw [List.length_map]; omega)
    obtain ⟨z1, z2, z3, z4⟩ := ea_ok (xs := []) nil_items hids
    have hc3 := fun w h => l3All_any none 0 [] (.slice p0 pd.length p5) (pd.map TxnQ.e) w (Or.inl rfl) (Or.inr ⟨rfl, rfl, rfl⟩) (txnsAt_of' h) nil_items hids
    rw [z1, z2, z3, z4] at hc3
    simp only [List.length_nil] at hc3
    have HD : Hid (∀ (k : Nat) (h : k < pd.length), ∃ u, (deedsE [] (pd.map TxnQ.e)).drop k = (TxnQ.e pd[k], (allCd [] (pd.map TxnQ.e)).getD k 0, (allVl [] (pd.map TxnQ.e)).getD k 0, u) :: (deedsE [] (pd.map TxnQ.e)).drop (k + 1)) := fun k h => by
      obtain ⟨u, e⟩ := deeds_at (pd.map TxnQ.e) [] k (by rw [List.length_map]; exact h)
      exact ⟨u, by rw [e]; simp⟩
    have HLC : Hid ((allCd [] (pd.map TxnQ.e)).length = pd.length) := show _ = _ by rw [allCd_length, List.length_map]
    have HLV : Hid ((allVl [] (pd.map TxnQ.e)).length = pd.length) := show _ = _ by rw [allVl_length, List.length_map]
    have HDL : Hid ((deedsE [] (pd.map TxnQ.e)).length = pd.length) := show _ = _ by rw [deeds_len, List.length_map]
    generalize allCd [] (pd.map TxnQ.e) = CD at *
    generalize allVl [] (pd.map TxnQ.e) = VL at *
    generalize allI [] (pd.map TxnQ.e) = YS at *
    generalize deedsE [] (pd.map TxnQ.e) = DE at *
    have HZ : Hid (repL (askS x y) (DE.drop 0) = E) := show _ = _ by rw [List.drop_zero]; exact hE.symm
    clear HE hE hF hids z1 z2 z3 z4
    have q0 := B.cell 0 _ rfl
    go_wp2_with fail
    clear q0
    refine (hc3 w2 (hr1 w2 hb0)).mono ?_
    rintro e w3 ⟨b1, c1, b2, c2, b3, c3, rfl, hA, hb⟩
    replace B := B.below hb
    replace RB := RB.below hb
    replace hb0 := hb0.trans (hb.mono hb0.size)
    have RA := hA.row
    clear hb hc3 hA
    have hbA : Below w3.heap.size w3 (w3.alloc (.cells #[.int .i64 0, .slice b1 CD.length c1, .slice b2 VL.length c2, .slice b3 YS.length c3] 51)) := by go_grown
    have AB := Blk.new w3 51 #[.int .i64 0, .slice b1 CD.length c1, .slice b2 VL.length c2, .slice b3 YS.length c3]
    replace B := B.below hbA
    replace RB := RB.below hbA
    replace RA := RA.below hbA
    replace hb0 := hb0.trans (hbA.mono hb0.size)
    clear hbA
    go_wp2_with fail
    generalize w3.alloc (.cells #[.int .i64 0, .slice b1 CD.length c1, .slice b2 VL.length c2, .slice b3 YS.length c3] 51) = w4 at *
    generalize w3.heap.size = ga at *
    go_loopw [9] (fun j wr => ∃ k : Nat, k ≤ pd.length ∧ j = .int .i64 k ∧ wr = w4 ∧ Hid (repL (askS x y) (DE.drop k) = E)) (fun j _ => pd.length - (intOf j).toNat)
    case atStart => exact ⟨0, Nat.zero_le _, rfl, by first | rfl | trivial, HZ⟩
    case round =>
      clear HZ
      obtain ⟨k, hk, rfl, rfl, HA⟩ := hrel
      have q0 := B.cell 0 _ rfl
      by_cases hlt : k < pd.length
      · obtain ⟨u, hdr⟩ := HD.out k hlt
        obtain ⟨b, off, rfl, hbs, hc, hrd⟩ := (hr1 wr hb0).cell (by decide) k hlt
        have hc' : ∀ j x, (txnK.cells pd[k])[j]? = some x → wr.cell? ⟨b, off + k * 4 + j, none⟩ = some x := hc
        have t1 := hc' 1 (.int .i64 pd[k].s) rfl
        have t2 := hc' 2 (.int .i64 pd[k].q) rfl
        have HY : Hid (askS x y (TxnQ.e pd[k]) = true → E = (0, CD.getD k 0, VL.getD k 0)) := fun hx => by rw [← HA.out, hdr, repL, if_pos hx]
        have HN : Hid (askS x y (TxnQ.e pd[k]) = false → repL (askS x y) (DE.drop (k + 1)) = E) := fun hx => by rw [← HA.out, hdr, repL, if_neg (by simp [hx])]
        clear HA hc hc' hdr hrd HD HDL hbs
        obtain ⟨d1, o1, rfl, _, cc1⟩ := RA.r1 k (by rw [HLC.out]; exact hlt)
        obtain ⟨d2, o2, rfl, _, cc2⟩ := RA.r2 k (by rw [HLV.out]; exact hlt)
        have hk1 : (k : Int) < (CD.length : Int) := by rw [HLC.out]; omega
        have hk2 : (k : Int) < (VL.length : Int) := by rw [HLV.out]; omega
        clear HLC HLV RA
        generalize CD.getD k 0 = cd at *
        generalize VL.getD k 0 = vl at *
        generalize CD.length = n1 at *
        generalize VL.length = n2 at *
        generalize pd[k] = p at *
        obtain ⟨i, s, q, va, acts⟩ := p
        dsimp only [TxnQ.e, askS] at t1 t2 HY HN
        have hlti : (k : Int) < (pd.length : Int) := by omega
        have hli : (pd.length : Int) ≤ 16 := by omega
        cases e1 : (s == x)
        · have HR' : Hid (repL (askS x y) (DE.drop (k + 1)) = E) := HN.out (by rw [e1]; rfl)
          clear HY HN cc1 cc2
          go_wp2
          go_roundw
          case rel => exact ⟨k + 1, by omega, by go_num, trivial, HR'⟩
          case measure => simp [intOf]; omega
        · cases e2 : (q == y)
          · have HR' : Hid (repL (askS x y) (DE.drop (k + 1)) = E) := HN.out (by rw [e1, e2]; rfl)
            clear HY HN cc1 cc2
            go_wp2
            go_roundw
            case rel => exact ⟨k + 1, by omega, by go_num, trivial, HR'⟩
            case measure => simp [intOf]; omega
          · have E1 : Hid (E = (0, cd, vl)) := HY.out (by rw [e1, e2]; rfl)
            clear HY HN
            have g1 := AB.cell 1 _ rfl
            have g2 := AB.cell 2 _ rfl
            have r0 := RB.cell 0 _ rfl
            have r1 := RB.cell 1 _ rfl
            have r2 := RB.cell 2 _ rfl
            have f0 := RB.frozen 0
            have f1 := RB.frozen 1
            have f2 := RB.frozen 2
            go_wp2
            go_region
            go_wp2
            exact bodyPost_ret (v := .agg #[.int .i64 0, .int .i64 cd, .int .i64 vl]) (by simp [results, Tryz.results36, go_sem, r0, r1, r2]) rfl ⟨by rw [E1.out], ((((hb0.drew.setCell (p := ⟨g, 0, none⟩) hg9 _).setCell (p := ⟨g, 1, none⟩) hg9 _).setCell (p := ⟨g, 2, none⟩) hg9 _))⟩
      · have E1 : Hid (E = (4, 0, 0)) := by
          show E = _
          rw [← HA.out, List.drop_eq_nil_of_le (by rw [HDL.out]; omega)]
          rfl
        have hlti : ¬ (k : Int) < (pd.length : Int) := by omega
        have hli : (pd.length : Int) ≤ 16 := by omega
        clear HA HD HDL
        have r0 := RB.cell 0 _ rfl
        have r1 := RB.cell 1 _ rfl
        have r2 := RB.cell 2 _ rfl
        have f0 := RB.frozen 0
        have f1 := RB.frozen 1
        have f2 := RB.frozen 2
        go_wp2
        exact bodyPost_ret (v := .agg #[.int .i64 4, .int .i64 0, .int .i64 0]) (by simp [results, Tryz.results36, go_sem, r0, r1, r2]) rfl ⟨by rw [E1.out], ((hb0.setCell (p := ⟨g, 0, none⟩) hg9 _).setCell (p := ⟨g, 1, none⟩) hg9 _).setCell (p := ⟨g, 2, none⟩) hg9 _⟩
  · have E1 : Hid (E = (c, 0, 0)) := HE.out.2 hc
    have hC' : (c != 0) = true := by simpa using hc
    clear HE
    have r0 := RB.cell 0 _ rfl
    have r1 := RB.cell 1 _ rfl
    have r2 := RB.cell 2 _ rfl
    have f0 := RB.frozen 0
    have f1 := RB.frozen 1
    have f2 := RB.frozen 2
    go_wp2
    exact bodyPost_ret (v := .agg #[.int .i64 c, .int .i64 0, .int .i64 0]) (by simp [results, Tryz.results36, go_sem, r0, r1, r2]) rfl ⟨by rw [E1.out], ((hb0.setCell (p := ⟨g, 0, none⟩) hg9 _).setCell (p := ⟨g, 1, none⟩) hg9 _).setCell (p := ⟨g, 2, none⟩) hg9 _⟩

end Go.Proofs.YthmcgflmejofbaaGreatDoor

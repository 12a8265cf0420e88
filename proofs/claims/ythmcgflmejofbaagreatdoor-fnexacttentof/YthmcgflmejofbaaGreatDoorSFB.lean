/- FinalOf and TentOf of the program. No condition. -/
import Derived.Test.YthmcgflmejofbaaGreatDoorSFA
namespace Go.Proofs.YthmcgflmejofbaaGreatDoor
open Go.RowKit
open Go.BigFrame
set_option linter.unusedVariables false
set_option maxRecDepth 100000
set_option linter.unusedSimpArgs false

/-- What FinalOf answers. -/
def finR (r : RepE) (x y : Int) : Int × Int × Int := if repF r = 0 then repL (askS x y) (deedsE [] r.done) else (repF r, 0, 0)
/-- What TentOf answers. -/
def tenR (r : RepE) (x : Int) : Int × Int × Int := if repF r = 0 then repL (askI x) (deedsE (allI [] r.done) r.tent) else (repF r, 0, 0)
theorem len_e4 {ds : List DeedQ} {xs : List ItemD} {E : List TxnD} (h : ds.map DeedQ.e4 = deedsE xs E) : ds.length = E.length := by
  have := congrArg List.length h
  rw [List.length_map, deeds_len] at this
  exact this
theorem checkedN_any (p : RepQ) (w : World) (h : repK.rd w p) (nd : NiceV p.vd) (nt : NiceV p.vt) (hl : p.n ≤ 1048576) :
    Calls Tryz.prog 67 #[.agg #[p.vd, p.vb, p.vt, p.vu, p.vn]] w fun e w' => ∃ (a0 a1 a2 a3 : Option Addr) (l0 c0 l1 c1 l2 c2 l3 c3 : Nat), e = .returned (.tuple #[.agg #[.slice a0 l0 c0, .slice a1 l1 c1, .slice a2 l2 c2, .slice a3 l3 c3], misC (repF p.e)]) ∧ Hid (repF p.e = 0 → ∃ w1 ds, (deedNK w1).At w' (.slice a0 l0 c0) ds ∧ ds.map DeedQ.e4 = deedsE [] p.e.done ∧ ds.length ≤ 100) ∧ Below w.heap.size w w' := by
  refine (checked_any p w h nd nt hl).mono ?_
  rintro e w' ⟨a0, a1, a2, a3, l0, c0, l1, c1, l2, c2, l3, c3, rfl, HC, hb⟩
  refine ⟨a0, a1, a2, a3, l0, c0, l1, c1, l2, c2, l3, c3, rfl, fun h0 => ?_, hb⟩
  obtain ⟨w1, _, ds, us, rb, B0, R, e1, _⟩ := HC h0
  refine ⟨w1, ds, Kind.at_of_row (K := deedNK w1) R.oN R.aN, e1, ?_⟩
  have := (rep_zero h0).1.1
  have l := len_e4 e1
  change (p.done.map TxnQ.e).length ≤ 16 at this
  omega
theorem checkedU_any (p : RepQ) (w : World) (h : repK.rd w p) (nd : NiceV p.vd) (nt : NiceV p.vt) (hl : p.n ≤ 1048576) :
    Calls Tryz.prog 67 #[.agg #[p.vd, p.vb, p.vt, p.vu, p.vn]] w fun e w' => ∃ (a0 a1 a2 a3 : Option Addr) (l0 c0 l1 c1 l2 c2 l3 c3 : Nat), e = .returned (.tuple #[.agg #[.slice a0 l0 c0, .slice a1 l1 c1, .slice a2 l2 c2, .slice a3 l3 c3], misC (repF p.e)]) ∧ Hid (repF p.e = 0 → ∃ w1 us, (deedUK w1).At w' (.slice a2 l2 c2) us ∧ us.map DeedQ.e4 = deedsE (allI [] p.e.done) p.e.tent ∧ us.length ≤ 100) ∧ Below w.heap.size w w' := by
  refine (checked_any p w h nd nt hl).mono ?_
  rintro e w' ⟨a0, a1, a2, a3, l0, c0, l1, c1, l2, c2, l3, c3, rfl, HC, hb⟩
  refine ⟨a0, a1, a2, a3, l0, c0, l1, c1, l2, c2, l3, c3, rfl, fun h0 => ?_, hb⟩
  obtain ⟨w1, _, ds, us, rb, B0, R, _, e1, _⟩ := HC h0
  refine ⟨w1, us, Kind.at_of_row (K := deedUK w1) R.oU (fun p hp => ⟨(R.aU p hp).1, (R.aU p hp).2.at⟩), e1, ?_⟩
  have := (rep_zero h0).1.2
  have l := len_e4 e1
  change (p.tent.map TxnQ.e).length ≤ 8 at this
  omega

set_option maxRecDepth 100000 in
set_option maxHeartbeats 4000000 in
theorem implFinalOf_any (p : RepQ) (x y : Int) (w : World) (hg : ErrT w) (h : repK.rd w p) (nd : NiceV p.vd) (nt : NiceV p.vt) (hl : p.n ≤ 1048576) :
    Calls Tryz.prog 35 #[.agg #[p.vd, p.vb, p.vt, p.vu, p.vn], .int .i64 x, .int .i64 y] w fun e w' => e = .returned (.agg #[.int .i64 (finR p.e x y).1, .int .i64 (finR p.e x y).2.1, .int .i64 (finR p.e x y).2.2]) ∧ Below w.heap.size w w' := by
  have hck := fun w h => checkedN_any p w h nd nt hl
  have hr := fun (w' : World) hb => repK.rd_below (w' := w') h hb
  have HE : Hid ((repF p.e = 0 → finR p.e x y = repL (askS x y) (deedsE [] p.e.done)) ∧ (repF p.e ≠ 0 → finR p.e x y = (repF p.e, 0, 0))) := ⟨fun h0 => if_pos h0, fun h0 => if_neg h0⟩
  generalize finR p.e x y = E at *
  generalize deedsE [] p.e.done = DE at *
  have hco := fun w hg => codeOf_any (repF p.e) w hg
  generalize repF p.e = c at *
  obtain ⟨pvd, pd, pvb, pb, pvt, pt, pvu, pu, pvn, pn⟩ := p
  obtain ⟨p0, p5, rfl⟩ : ∃ a c, pvd = .slice a pd.length c := h.1.shape
  obtain ⟨p1, p6, rfl⟩ : ∃ a c, pvb = .slice a pb.length c := h.2.1.shape
  obtain ⟨p2, p7, rfl⟩ : ∃ a c, pvt = .slice a pt.length c := h.2.2.1.shape
  obtain ⟨p3, p8, rfl⟩ : ∃ a c, pvu = .slice a pu.length c := h.2.2.2.1.shape
  obtain ⟨p4, p9, rfl⟩ : ∃ a c, pvn = .slice a pn.length c := h.2.2.2.2.shape
  dsimp only at hck hr
  have hb0 : Below w.heap.size w ((((w.alloc (.cells #[.slice p0 pd.length p5, .slice p1 pb.length p6, .slice p2 pt.length p7, .slice p3 pu.length p8, .slice p4 pn.length p9] 28)).alloc (.cells #[.int .i64 x] 2)).alloc (.cells #[.int .i64 y] 2)).alloc (.cells #[.int .i64 0, .int .i64 0, .int .i64 0] 60)) := by go_grown
  have B := Blk.new w 28 #[.slice p0 pd.length p5, .slice p1 pb.length p6, .slice p2 pt.length p7, .slice p3 pu.length p8, .slice p4 pn.length p9]
  replace B := B.below (show Below (w.alloc (.cells #[.slice p0 pd.length p5, .slice p1 pb.length p6, .slice p2 pt.length p7, .slice p3 pu.length p8, .slice p4 pn.length p9] 28)).heap.size (w.alloc (.cells #[.slice p0 pd.length p5, .slice p1 pb.length p6, .slice p2 pt.length p7, .slice p3 pu.length p8, .slice p4 pn.length p9] 28)) ((((w.alloc (.cells #[.slice p0 pd.length p5, .slice p1 pb.length p6, .slice p2 pt.length p7, .slice p3 pu.length p8, .slice p4 pn.length p9] 28)).alloc (.cells #[.int .i64 x] 2)).alloc (.cells #[.int .i64 y] 2)).alloc (.cells #[.int .i64 0, .int .i64 0, .int .i64 0] 60)) by go_grown)
  have B1 := Blk.new (w.alloc (.cells #[.slice p0 pd.length p5, .slice p1 pb.length p6, .slice p2 pt.length p7, .slice p3 pu.length p8, .slice p4 pn.length p9] 28)) 2 #[.int .i64 x]
  replace B1 := B1.below (show Below ((w.alloc (.cells #[.slice p0 pd.length p5, .slice p1 pb.length p6, .slice p2 pt.length p7, .slice p3 pu.length p8, .slice p4 pn.length p9] 28)).alloc (.cells #[.int .i64 x] 2)).heap.size ((w.alloc (.cells #[.slice p0 pd.length p5, .slice p1 pb.length p6, .slice p2 pt.length p7, .slice p3 pu.length p8, .slice p4 pn.length p9] 28)).alloc (.cells #[.int .i64 x] 2)) ((((w.alloc (.cells #[.slice p0 pd.length p5, .slice p1 pb.length p6, .slice p2 pt.length p7, .slice p3 pu.length p8, .slice p4 pn.length p9] 28)).alloc (.cells #[.int .i64 x] 2)).alloc (.cells #[.int .i64 y] 2)).alloc (.cells #[.int .i64 0, .int .i64 0, .int .i64 0] 60)) by go_grown)
  simp only [World.size_alloc] at B1
  have B2 := Blk.new ((w.alloc (.cells #[.slice p0 pd.length p5, .slice p1 pb.length p6, .slice p2 pt.length p7, .slice p3 pu.length p8, .slice p4 pn.length p9] 28)).alloc (.cells #[.int .i64 x] 2)) 2 #[.int .i64 y]
  replace B2 := B2.below (show Below (((w.alloc (.cells #[.slice p0 pd.length p5, .slice p1 pb.length p6, .slice p2 pt.length p7, .slice p3 pu.length p8, .slice p4 pn.length p9] 28)).alloc (.cells #[.int .i64 x] 2)).alloc (.cells #[.int .i64 y] 2)).heap.size (((w.alloc (.cells #[.slice p0 pd.length p5, .slice p1 pb.length p6, .slice p2 pt.length p7, .slice p3 pu.length p8, .slice p4 pn.length p9] 28)).alloc (.cells #[.int .i64 x] 2)).alloc (.cells #[.int .i64 y] 2)) ((((w.alloc (.cells #[.slice p0 pd.length p5, .slice p1 pb.length p6, .slice p2 pt.length p7, .slice p3 pu.length p8, .slice p4 pn.length p9] 28)).alloc (.cells #[.int .i64 x] 2)).alloc (.cells #[.int .i64 y] 2)).alloc (.cells #[.int .i64 0, .int .i64 0, .int .i64 0] 60)) by go_grown)
  simp only [World.size_alloc] at B2
  have RB := Blk.new (((w.alloc (.cells #[.slice p0 pd.length p5, .slice p1 pb.length p6, .slice p2 pt.length p7, .slice p3 pu.length p8, .slice p4 pn.length p9] 28)).alloc (.cells #[.int .i64 x] 2)).alloc (.cells #[.int .i64 y] 2)) 60 #[.int .i64 0, .int .i64 0, .int .i64 0]
  simp only [World.size_alloc] at RB
  have q0 := B.cell 0 _ rfl
  have q1 := B.cell 1 _ rfl
  have q2 := B.cell 2 _ rfl
  have q3 := B.cell 3 _ rfl
  have q4 := B.cell 4 _ rfl
  go_enter Tryz.func35, Tryz.ntmps35
  go_wp2_with fail
  clear q0 q1 q2 q3 q4 B
  have hg0 := hg.below hb0
  have hr0 := hr _ hb0
  generalize ((((w.alloc (.cells #[.slice p0 pd.length p5, .slice p1 pb.length p6, .slice p2 pt.length p7, .slice p3 pu.length p8, .slice p4 pn.length p9] 28)).alloc (.cells #[.int .i64 x] 2)).alloc (.cells #[.int .i64 y] 2)).alloc (.cells #[.int .i64 0, .int .i64 0, .int .i64 0] 60)) = W at *
  have hg9 : w.heap.size ≤ w.heap.size + 1 + 1 + 1 := by omega
  generalize hgg : w.heap.size + 1 + 1 + 1 = g at *
  generalize hgg2 : w.heap.size + 1 + 1 = g2 at *
  generalize hgg1 : w.heap.size + 1 = g1 at *
  clear hgg hgg2 hgg1
  refine (hck W hr0).mono ?_
  rintro e w2 ⟨a0, a1, a2, a3, l0, c0, l1, c1, l2, c2, l3, c3, rfl, HC, hb2⟩
  replace hb0 := hb0.trans (hb2.mono hb0.size)
  replace B1 := B1.below hb2
  replace B2 := B2.below hb2
  replace RB := RB.below hb2
  have hg2' := hg0.below hb2
  have hbA : Below w2.heap.size w2 (w2.alloc (.cells #[.slice a0 l0 c0, .slice a1 l1 c1, .slice a2 l2 c2, .slice a3 l3 c3] 107)) := by go_grown
  have BR := Blk.new w2 107 #[.slice a0 l0 c0, .slice a1 l1 c1, .slice a2 l2 c2, .slice a3 l3 c3]
  have hco2 := hco _ (hg2'.below hbA)
  replace B1 := B1.below hbA
  replace B2 := B2.below hbA
  replace RB := RB.below hbA
  replace hb0 := hb0.trans (hbA.mono hb0.size)
  clear hck hb2
  generalize misC c = m at *
  go_wp2_with fail
  generalize w2.alloc (.cells #[.slice a0 l0 c0, .slice a1 l1 c1, .slice a2 l2 c2, .slice a3 l3 c3] 107) = W2 at *
  refine hco2.mono ?_
  rintro e w4 ⟨rfl, hb4⟩
  replace hb0 := hb0.trans (hb4.mono hb0.size)
  replace B1 := B1.below hb4
  replace B2 := B2.below hb4
  replace RB := RB.below hb4
  replace BR := BR.below hb4
  have hbA4 := hbA.trans (hb4.mono hbA.size)
  clear hco hco2 hb4 hbA
  by_cases hc : c = 0
  · obtain ⟨w1, ds, hat, hde, hds⟩ := HC.out hc
    have hE := HE.out.1 hc
    subst hc
    obtain ⟨aa, cc, hvv⟩ := hat.shape
    have hq := replyToN_any w1 (.slice a0 l0 c0) (.slice a1 l1 c1) ds x y g1 g2 _ (hat.below hbA4) B1 B2 hds
    rw [hde, ← hE] at hq
    clear HC HE hat hbA4 hde hE hvv
    have k0 := BR.cell 0 _ rfl
    have k1 := BR.cell 1 _ rfl
    have k2 := BR.cell 2 _ rfl
    have k3 := BR.cell 3 _ rfl
    go_wp2_with fail
    refine hq.mono ?_
    rintro e w5 ⟨rfl, hb5⟩
    replace hb0 := hb0.trans (hb5.mono hb0.size)
    replace RB := RB.below hb5
    clear hq hb5 k0 k1 k2 k3
    have r0 := RB.cell 0 _ rfl
    have r1 := RB.cell 1 _ rfl
    have r2 := RB.cell 2 _ rfl
    have f0 := RB.frozen 0
    have f1 := RB.frozen 1
    have f2 := RB.frozen 2
    go_wp2
    exact bodyPost_ret (v := .agg #[.int .i64 E.1, .int .i64 E.2.1, .int .i64 E.2.2]) (by simp [results, Tryz.results35, go_sem, r0, r1, r2]) rfl ⟨rfl, ((hb0.setCell (p := ⟨g, 0, none⟩) hg9 _).setCell (p := ⟨g, 1, none⟩) hg9 _).setCell (p := ⟨g, 2, none⟩) hg9 _⟩
  · have E1 : Hid (E = (c, 0, 0)) := HE.out.2 hc
    have hC' : (c != 0) = true := by simpa using hc
    clear HC HE
    have r0 := RB.cell 0 _ rfl
    have r1 := RB.cell 1 _ rfl
    have r2 := RB.cell 2 _ rfl
    have f0 := RB.frozen 0
    have f1 := RB.frozen 1
    have f2 := RB.frozen 2
    go_wp2
    exact bodyPost_ret (v := .agg #[.int .i64 c, .int .i64 0, .int .i64 0]) (by simp [results, Tryz.results35, go_sem, r0, r1, r2]) rfl ⟨by rw [E1.out], ((hb0.setCell (p := ⟨g, 0, none⟩) hg9 _).setCell (p := ⟨g, 1, none⟩) hg9 _).setCell (p := ⟨g, 2, none⟩) hg9 _⟩

set_option maxRecDepth 100000 in
set_option maxHeartbeats 4000000 in
theorem implTentOf_any (p : RepQ) (x : Int) (w : World) (hg : ErrT w) (h : repK.rd w p) (nd : NiceV p.vd) (nt : NiceV p.vt) (hl : p.n ≤ 1048576) :
    Calls Tryz.prog 33 #[.agg #[p.vd, p.vb, p.vt, p.vu, p.vn], .int .i64 x] w fun e w' => e = .returned (.agg #[.int .i64 (tenR p.e x).1, .int .i64 (tenR p.e x).2.1, .int .i64 (tenR p.e x).2.2]) ∧ Below w.heap.size w w' := by
  have hck := fun w h => checkedU_any p w h nd nt hl
  have hr := fun (w' : World) hb => repK.rd_below (w' := w') h hb
  have HE : Hid ((repF p.e = 0 → tenR p.e x = repL (askI x) (deedsE (allI [] p.e.done) p.e.tent)) ∧ (repF p.e ≠ 0 → tenR p.e x = (repF p.e, 0, 0))) := ⟨fun h0 => if_pos h0, fun h0 => if_neg h0⟩
  generalize tenR p.e x = E at *
  generalize deedsE (allI [] p.e.done) p.e.tent = DE at *
  have hco := fun w hg => codeOf_any (repF p.e) w hg
  generalize repF p.e = c at *
  obtain ⟨pvd, pd, pvb, pb, pvt, pt, pvu, pu, pvn, pn⟩ := p
  obtain ⟨p0, p5, rfl⟩ : ∃ a c, pvd = .slice a pd.length c := h.1.shape
  obtain ⟨p1, p6, rfl⟩ : ∃ a c, pvb = .slice a pb.length c := h.2.1.shape
  obtain ⟨p2, p7, rfl⟩ : ∃ a c, pvt = .slice a pt.length c := h.2.2.1.shape
  obtain ⟨p3, p8, rfl⟩ : ∃ a c, pvu = .slice a pu.length c := h.2.2.2.1.shape
  obtain ⟨p4, p9, rfl⟩ : ∃ a c, pvn = .slice a pn.length c := h.2.2.2.2.shape
  dsimp only at hck hr
  have hb0 : Below w.heap.size w (((w.alloc (.cells #[.slice p0 pd.length p5, .slice p1 pb.length p6, .slice p2 pt.length p7, .slice p3 pu.length p8, .slice p4 pn.length p9] 28)).alloc (.cells #[.int .i64 x] 2)).alloc (.cells #[.int .i64 0, .int .i64 0, .int .i64 0] 60)) := by go_grown
  have B := Blk.new w 28 #[.slice p0 pd.length p5, .slice p1 pb.length p6, .slice p2 pt.length p7, .slice p3 pu.length p8, .slice p4 pn.length p9]
  replace B := B.below (show Below (w.alloc (.cells #[.slice p0 pd.length p5, .slice p1 pb.length p6, .slice p2 pt.length p7, .slice p3 pu.length p8, .slice p4 pn.length p9] 28)).heap.size (w.alloc (.cells #[.slice p0 pd.length p5, .slice p1 pb.length p6, .slice p2 pt.length p7, .slice p3 pu.length p8, .slice p4 pn.length p9] 28)) (((w.alloc (.cells #[.slice p0 pd.length p5, .slice p1 pb.length p6, .slice p2 pt.length p7, .slice p3 pu.length p8, .slice p4 pn.length p9] 28)).alloc (.cells #[.int .i64 x] 2)).alloc (.cells #[.int .i64 0, .int .i64 0, .int .i64 0] 60)) by go_grown)
  have B1 := Blk.new (w.alloc (.cells #[.slice p0 pd.length p5, .slice p1 pb.length p6, .slice p2 pt.length p7, .slice p3 pu.length p8, .slice p4 pn.length p9] 28)) 2 #[.int .i64 x]
  replace B1 := B1.below (show Below ((w.alloc (.cells #[.slice p0 pd.length p5, .slice p1 pb.length p6, .slice p2 pt.length p7, .slice p3 pu.length p8, .slice p4 pn.length p9] 28)).alloc (.cells #[.int .i64 x] 2)).heap.size ((w.alloc (.cells #[.slice p0 pd.length p5, .slice p1 pb.length p6, .slice p2 pt.length p7, .slice p3 pu.length p8, .slice p4 pn.length p9] 28)).alloc (.cells #[.int .i64 x] 2)) (((w.alloc (.cells #[.slice p0 pd.length p5, .slice p1 pb.length p6, .slice p2 pt.length p7, .slice p3 pu.length p8, .slice p4 pn.length p9] 28)).alloc (.cells #[.int .i64 x] 2)).alloc (.cells #[.int .i64 0, .int .i64 0, .int .i64 0] 60)) by go_grown)
  simp only [World.size_alloc] at B1
  have RB := Blk.new ((w.alloc (.cells #[.slice p0 pd.length p5, .slice p1 pb.length p6, .slice p2 pt.length p7, .slice p3 pu.length p8, .slice p4 pn.length p9] 28)).alloc (.cells #[.int .i64 x] 2)) 60 #[.int .i64 0, .int .i64 0, .int .i64 0]
  simp only [World.size_alloc] at RB
  have q0 := B.cell 0 _ rfl
  have q1 := B.cell 1 _ rfl
  have q2 := B.cell 2 _ rfl
  have q3 := B.cell 3 _ rfl
  have q4 := B.cell 4 _ rfl
  go_enter Tryz.func33, Tryz.ntmps33
  go_wp2_with fail
  clear q0 q1 q2 q3 q4 B
  have hg0 := hg.below hb0
  have hr0 := hr _ hb0
  generalize (((w.alloc (.cells #[.slice p0 pd.length p5, .slice p1 pb.length p6, .slice p2 pt.length p7, .slice p3 pu.length p8, .slice p4 pn.length p9] 28)).alloc (.cells #[.int .i64 x] 2)).alloc (.cells #[.int .i64 0, .int .i64 0, .int .i64 0] 60)) = W at *
  have hg9 : w.heap.size ≤ w.heap.size + 1 + 1 := by omega
  generalize hgg : w.heap.size + 1 + 1 = g at *
  generalize hgg1 : w.heap.size + 1 = g1 at *
  clear hgg hgg1
  refine (hck W hr0).mono ?_
  rintro e w2 ⟨a0, a1, a2, a3, l0, c0, l1, c1, l2, c2, l3, c3, rfl, HC, hb2⟩
  replace hb0 := hb0.trans (hb2.mono hb0.size)
  replace B1 := B1.below hb2
  replace RB := RB.below hb2
  have hg2' := hg0.below hb2
  have hbA : Below w2.heap.size w2 (w2.alloc (.cells #[.slice a0 l0 c0, .slice a1 l1 c1, .slice a2 l2 c2, .slice a3 l3 c3] 107)) := by go_grown
  have BR := Blk.new w2 107 #[.slice a0 l0 c0, .slice a1 l1 c1, .slice a2 l2 c2, .slice a3 l3 c3]
  have hco2 := hco _ (hg2'.below hbA)
  replace B1 := B1.below hbA
  replace RB := RB.below hbA
  replace hb0 := hb0.trans (hbA.mono hb0.size)
  clear hck hb2
  generalize misC c = m at *
  go_wp2_with fail
  generalize w2.alloc (.cells #[.slice a0 l0 c0, .slice a1 l1 c1, .slice a2 l2 c2, .slice a3 l3 c3] 107) = W2 at *
  refine hco2.mono ?_
  rintro e w4 ⟨rfl, hb4⟩
  replace hb0 := hb0.trans (hb4.mono hb0.size)
  replace B1 := B1.below hb4
  replace RB := RB.below hb4
  replace BR := BR.below hb4
  have hbA4 := hbA.trans (hb4.mono hbA.size)
  clear hco hco2 hb4 hbA
  by_cases hc : c = 0
  · obtain ⟨w1, ds, hat, hde, hds⟩ := HC.out hc
    have hE := HE.out.1 hc
    subst hc
    obtain ⟨aa, cc, hvv⟩ := hat.shape
    have hq := replyToU_any w1 (.slice a2 l2 c2) (.slice a3 l3 c3) ds x g1 _ (hat.below hbA4) B1 hds
    rw [hde, ← hE] at hq
    clear HC HE hat hbA4 hde hE hvv
    have k0 := BR.cell 0 _ rfl
    have k1 := BR.cell 1 _ rfl
    have k2 := BR.cell 2 _ rfl
    have k3 := BR.cell 3 _ rfl
    go_wp2_with fail
    refine hq.mono ?_
    rintro e w5 ⟨rfl, hb5⟩
    replace hb0 := hb0.trans (hb5.mono hb0.size)
    replace RB := RB.below hb5
    clear hq hb5 k0 k1 k2 k3
    have r0 := RB.cell 0 _ rfl
    have r1 := RB.cell 1 _ rfl
    have r2 := RB.cell 2 _ rfl
    have f0 := RB.frozen 0
    have f1 := RB.frozen 1
    have f2 := RB.frozen 2
    go_wp2
    exact bodyPost_ret (v := .agg #[.int .i64 E.1, .int .i64 E.2.1, .int .i64 E.2.2]) (by simp [results, Tryz.results33, go_sem, r0, r1, r2]) rfl ⟨rfl, ((hb0.setCell (p := ⟨g, 0, none⟩) hg9 _).setCell (p := ⟨g, 1, none⟩) hg9 _).setCell (p := ⟨g, 2, none⟩) hg9 _⟩
  · have E1 : Hid (E = (c, 0, 0)) := HE.out.2 hc
    have hC' : (c != 0) = true := by simpa using hc
    clear HC HE
    have r0 := RB.cell 0 _ rfl
    have r1 := RB.cell 1 _ rfl
    have r2 := RB.cell 2 _ rfl
    have f0 := RB.frozen 0
    have f1 := RB.frozen 1
    have f2 := RB.frozen 2
    go_wp2
    exact bodyPost_ret (v := .agg #[.int .i64 c, .int .i64 0, .int .i64 0]) (by simp [results, Tryz.results33, go_sem, r0, r1, r2]) rfl ⟨by rw [E1.out], ((hb0.setCell (p := ⟨g, 0, none⟩) hg9 _).setCell (p := ⟨g, 1, none⟩) hg9 _).setCell (p := ⟨g, 2, none⟩) hg9 _⟩

end Go.Proofs.YthmcgflmejofbaaGreatDoor

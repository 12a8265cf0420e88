/- The model's SetBatch. -/
import Derived.Test.YtpjmlidbligcbaaGreatDoorM6f
namespace Go.Proofs.YtpjmlidbligcbaaGreatDoor
open Go.RowKit
open Go.BigFrame
set_option linter.unusedVariables false
set_option maxRecDepth 100000
set_option linter.unusedSimpArgs false

set_option maxHeartbeats 2000000 in
theorem l6Bad_any (c : Int) (w : World) :
    Calls Tryz.prog 78 #[.int .i64 c] w fun e w' => e = .returned (.agg #[.int .i64 c, .int .i64 0, .bool false, .bool false, .int .i64 0, .bool false, .slice none 0 0, .slice none 0 0, .slice none 0 0]) ∧ Below w.heap.size w w' := by
  have hB : Below w.heap.size w (w.alloc (.cells #[.int .i64 0, .int .i64 0, .bool false, .bool false, .int .i64 0, .bool false, .slice none 0 0, .slice none 0 0, .slice none 0 0] 34)) := by go_grown
  have Rb := Blk.new w 34 #[.int .i64 0, .int .i64 0, .bool false, .bool false, .int .i64 0, .bool false, .slice none 0 0, .slice none 0 0, .slice none 0 0]
  have Rr := Rb.row #[.int .i64 c, .int .i64 0, .bool false, .bool false, .int .i64 0, .bool false, .slice none 0 0, .slice none 0 0, .slice none 0 0]
  have hBr := below_row hB (g := w.heap.size) (Nat.le_refl _) #[.int .i64 c, .int .i64 0, .bool false, .bool false, .int .i64 0, .bool false, .slice none 0 0, .slice none 0 0, .slice none 0 0]
  have hsr : (Tryz.prog.info? 34).map (·.size) = some (#[.int .i64 c, .int .i64 0, .bool false, .bool false, .int .i64 0, .bool false, .slice none 0 0, .slice none 0 0, .slice none 0 0] : Array Value).size := sz_res
  go_enter Tryz.func78, Tryz.ntmps78
  go_wp2_with (first | (refine st_row (by kernel_rfl) 34 _ _ rfl _ #[.int .i64 c, .int .i64 0, .bool false, .bool false, .int .i64 0, .bool false, .slice none 0 0, .slice none 0 0, .slice none 0 0] rfl rfl 34 _ Rb hsr rfl (by simp [Value.oneCell']) ?_))
  have q0 := Rr.cell 0 _ rfl
  have q1 := Rr.cell 1 _ rfl
  have q2 := Rr.cell 2 _ rfl
  have q3 := Rr.cell 3 _ rfl
  have q4 := Rr.cell 4 _ rfl
  have q5 := Rr.cell 5 _ rfl
  have q6 := Rr.cell 6 _ rfl
  have q7 := Rr.cell 7 _ rfl
  have q8 := Rr.cell 8 _ rfl
  exact bodyPost_ret (v := .agg #[.int .i64 c, .int .i64 0, .bool false, .bool false, .int .i64 0, .bool false, .slice none 0 0, .slice none 0 0, .slice none 0 0]) (by simp [results, Tryz.results78, go_sem, q0, q1, q2, q3, q4, q5, q6, q7, q8]) rfl ⟨rfl, hBr⟩

theorem ins_low {p : InstQ} (h : insF p.e = 0) : (∀ t ∈ p.batch, 0 < t.acts.length) ∧ (∀ r ∈ p.rounds, 0 < r.rep.length ∧ 0 < r.pro.length) ∧ 0 < p.dec.length := by
  obtain ⟨h1, h2, h3, _, h5⟩ := ins_ok h
  obtain ⟨h6, _⟩ := ins_zero h
  obtain ⟨_, _, _, h7, h8⟩ := shp_zero h6
  refine ⟨?_, fun r hr => ?_, by have : p.dec.length = 3 := h3; omega⟩
  · cases hh : p.has with
    | true => exact bat_pos (h8 hh)
    | false =>
      have : p.batch.map TxnQ.e = [] := h7 hh
      intro t ht
      have : p.batch = [] := List.map_eq_nil_iff.1 this
      rw [this] at ht
      simp at ht
  · have := h1 (RoundQ.e r) (List.mem_map.2 ⟨r, hr, rfl⟩)
    have h9 : r.rep.length = 3 ∧ r.pro.length = 3 := this
    omega

set_option maxHeartbeats 4000000 in
theorem l6Set_any (b o : Nat) (p : InstQ) (vn : Value) (bt : List TxnQ) (w : World) (hP : InstP w b o p) (hbw : b < w.heap.size) (hl : p.n ≤ 1048576) (h0 : insF p.e = 0) (hT : txnK.At w vn bt) (hl' : bt.length + nmL TxnQ.n bt ≤ 1048576) :
    Calls Tryz.prog 79 #[.pointer (some ⟨b, o, none⟩), vn] w fun e w' => ∃ q : InstQ, e = .returned (.agg (resC (sbC p.e (bt.map TxnQ.e)) 0 false false 0 q)) ∧ q.e = sbI p.e (bt.map TxnQ.e) ∧ instK.own w' q ∧ (instK.foot q).Nodup ∧ (∀ k ∈ instK.foot q, w.heap.size ≤ k) ∧ Below w.heap.size w w' := by
  obtain ⟨hne, hro, hd0⟩ := ins_low h0
  have hco := fun w h => l6Copy_any p w h hl hne hro hd0
  have hba := fun w (hT : txnK.At w vn bt) => l6Batch_any vn (bt.map TxnQ.e) w (txnsAt_of hT) (by rw [List.length_map, sumA_of]; omega)
  have hin := fun (hp : batF (bt.map TxnQ.e) = 0) w (hT : txnK.At w vn bt) => l2CopyAll_any vn bt w hT (bat_pos hp) hl'
  obtain ⟨D, hD⟩ : ∃ D, sbC p.e (bt.map TxnQ.e) = D := ⟨_, rfl⟩
  obtain ⟨E, hE⟩ : ∃ E, sbI p.e (bt.map TxnQ.e) = E := ⟨_, rfl⟩
  have HDE : Hid ((p.has = true → D = 6 ∧ E = ine0) ∧ (p.has = false → batF (bt.map TxnQ.e) ≠ 0 → D = batF (bt.map TxnQ.e) ∧ E = ine0) ∧ (p.has = false → batF (bt.map TxnQ.e) = 0 → D = 0 ∧ E = ⟨true, bt.map TxnQ.e, p.e.rounds, p.dec⟩)) := by
    have hph : p.e.has = p.has := rfl
    refine ⟨fun h1 => ?_, fun h1 h2 => ?_, fun h1 h2 => ?_⟩
    · have e : D = 6 := by rw [← hD]; unfold sbC; rw [if_pos h0, hph, h1]; rfl
      exact ⟨e, by rw [← hE]; exact if_neg (by rw [hD, e]; decide)⟩
    · have e : D = batF (bt.map TxnQ.e) := by rw [← hD]; unfold sbC; rw [if_pos h0, hph, h1]; rfl
      exact ⟨e, by rw [← hE]; exact if_neg (by rw [hD, e]; exact h2)⟩
    · have e : D = 0 := by rw [← hD]; unfold sbC; rw [if_pos h0, hph, h1]; exact h2
      exact ⟨e, by rw [← hE]; exact if_pos (by rw [hD, e])⟩
  rw [hD, hE]
  clear hD hE h0 hne hro hd0
  have HPE : Hid (p.e.rounds = p.rounds.map RoundQ.e ∧ p.e.dec = p.dec) := ⟨rfl, rfl⟩
  generalize hds : bt.map TxnQ.e = dsn at *
  generalize hbf : batF dsn = BF at *
  clear hbf
  have hrd := hP.rd
  have hrb := fun (w' : World) hb => instK.rd_below (w' := w') hrd hb
  generalize hpe : p.e = pe at *
  obtain ⟨has, vb, batch, vr, rounds, vd, dec⟩ := p
  obtain ⟨ba, bk, rfl⟩ : ∃ a c, vb = .slice a batch.length c := hrd.1.shape
  obtain ⟨va, vk, rfl⟩ : ∃ a c, vr = .slice a rounds.length c := hrd.2.1.shape
  obtain ⟨da, dk, rfl⟩ : ∃ a c, vd = .slice a dec.length c := hrd.2.2.shape
  obtain ⟨na, nk, rfl⟩ := hT.shape
  dsimp only at hco hrb HDE HPE
  have hB : Below w.heap.size w (w.alloc (.cells #[.int .i64 0, .int .i64 0, .bool false, .bool false, .int .i64 0, .bool false, .slice none 0 0, .slice none 0 0, .slice none 0 0] 34)) := by go_grown
  have Rb := Blk.new w 34 #[.int .i64 0, .int .i64 0, .bool false, .bool false, .int .i64 0, .bool false, .slice none 0 0, .slice none 0 0, .slice none 0 0]
  have hPW := hP.below hB
  have c0 := hPW.box.c0
  dsimp only at c0
  cases has with
  | true =>
    have E1 : Hid (D = 6 ∧ E = ine0) := HDE.out.1 rfl
    clear HDE hba hin hco
    go_enter Tryz.func79, Tryz.ntmps79
    go_wp2_with fail
    clear c0
    generalize w.alloc (.cells #[.int .i64 0, .int .i64 0, .bool false, .bool false, .int .i64 0, .bool false, .slice none 0 0, .slice none 0 0, .slice none 0 0] 34) = W at *
    refine (l6Bad_any 6 _).mono ?_
    rintro e w8 ⟨rfl, hb8⟩
    replace hB := hB.trans (hb8.mono hB.size)
    replace Rb := Rb.below hb8
    clear hb8
    have Rr := Rb.row #[.int .i64 6, .int .i64 0, .bool false, .bool false, .int .i64 0, .bool false, .slice none 0 0, .slice none 0 0, .slice none 0 0]
    have hBr := below_row hB (g := w.heap.size) (by omega) #[.int .i64 6, .int .i64 0, .bool false, .bool false, .int .i64 0, .bool false, .slice none 0 0, .slice none 0 0, .slice none 0 0]
    have hsr : (Tryz.prog.info? 34).map (·.size) = some (#[.int .i64 6, .int .i64 0, .bool false, .bool false, .int .i64 0, .bool false, .slice none 0 0, .slice none 0 0, .slice none 0 0] : Array Value).size := sz_res
    go_wp2_with (first | (refine st_row (by kernel_rfl) 34 _ _ rfl _ #[.int .i64 6, .int .i64 0, .bool false, .bool false, .int .i64 0, .bool false, .slice none 0 0, .slice none 0 0, .slice none 0 0] rfl rfl 34 _ Rb hsr rfl (by simp [Value.oneCell']) ?_))
    have q0 := Rr.cell 0 _ rfl
    have q1 := Rr.cell 1 _ rfl
    have q2 := Rr.cell 2 _ rfl
    have q3 := Rr.cell 3 _ rfl
    have q4 := Rr.cell 4 _ rfl
    have q5 := Rr.cell 5 _ rfl
    have q6 := Rr.cell 6 _ rfl
    have q7 := Rr.cell 7 _ rfl
    have q8 := Rr.cell 8 _ rfl
    exact bodyPost_ret (v := .agg #[.int .i64 6, .int .i64 0, .bool false, .bool false, .int .i64 0, .bool false, .slice none 0 0, .slice none 0 0, .slice none 0 0]) (by simp [results, Tryz.results79, go_sem, q0, q1, q2, q3, q4, q5, q6, q7, q8]) rfl ⟨inst0, by rw [E1.out.1]; rfl, E1.out.2.symm, inst0_own _, inst0_nd, fun k hk => by rw [inst0_ft] at hk; simp at hk, hBr⟩

  | false =>
    have E4 : Hid ((BF ≠ 0 → D = BF ∧ E = ine0) ∧ (BF = 0 → D = 0 ∧ E = ⟨true, dsn, pe.rounds, dec⟩)) := ⟨HDE.out.2.1 rfl, HDE.out.2.2 rfl⟩
    clear HDE
    go_enter Tryz.func79, Tryz.ntmps79
    go_wp2_with fail
    clear c0
    generalize w.alloc (.cells #[.int .i64 0, .int .i64 0, .bool false, .bool false, .int .i64 0, .bool false, .slice none 0 0, .slice none 0 0, .slice none 0 0] 34) = W at *
    refine (hba W (hT.below hB)).mono ?_
    rintro e w2 ⟨rfl, hb2⟩
    replace Rb := Rb.below hb2
    replace hPW := hPW.below hb2
    replace hB := hB.trans (hb2.mono hB.size)
    clear hb2 hba
    by_cases hbf : BF = 0
    case neg =>
      have E1 : Hid (D = BF ∧ E = ine0) := E4.out.1 hbf
      have h0' : (BF != 0) = true := by simpa using hbf
      clear E4 hbf hin hco
      go_wp2_with fail
      refine (l6Bad_any BF _).mono ?_
      rintro e w8 ⟨rfl, hb8⟩
      replace hB := hB.trans (hb8.mono hB.size)
      replace Rb := Rb.below hb8
      clear hb8
      have Rr := Rb.row #[.int .i64 BF, .int .i64 0, .bool false, .bool false, .int .i64 0, .bool false, .slice none 0 0, .slice none 0 0, .slice none 0 0]
      have hBr := below_row hB (g := w.heap.size) (by omega) #[.int .i64 BF, .int .i64 0, .bool false, .bool false, .int .i64 0, .bool false, .slice none 0 0, .slice none 0 0, .slice none 0 0]
      have hsr : (Tryz.prog.info? 34).map (·.size) = some (#[.int .i64 BF, .int .i64 0, .bool false, .bool false, .int .i64 0, .bool false, .slice none 0 0, .slice none 0 0, .slice none 0 0] : Array Value).size := sz_res
      go_wp2_with (first | (refine st_row (by kernel_rfl) 34 _ _ rfl _ #[.int .i64 BF, .int .i64 0, .bool false, .bool false, .int .i64 0, .bool false, .slice none 0 0, .slice none 0 0, .slice none 0 0] rfl rfl 34 _ Rb hsr rfl (by simp [Value.oneCell']) ?_))
      have q0 := Rr.cell 0 _ rfl
      have q1 := Rr.cell 1 _ rfl
      have q2 := Rr.cell 2 _ rfl
      have q3 := Rr.cell 3 _ rfl
      have q4 := Rr.cell 4 _ rfl
      have q5 := Rr.cell 5 _ rfl
      have q6 := Rr.cell 6 _ rfl
      have q7 := Rr.cell 7 _ rfl
      have q8 := Rr.cell 8 _ rfl
      exact bodyPost_ret (v := .agg #[.int .i64 BF, .int .i64 0, .bool false, .bool false, .int .i64 0, .bool false, .slice none 0 0, .slice none 0 0, .slice none 0 0]) (by simp [results, Tryz.results79, go_sem, q0, q1, q2, q3, q4, q5, q6, q7, q8]) rfl ⟨inst0, by rw [E1.out.1]; rfl, E1.out.2.symm, inst0_own _, inst0_nd, fun k hk => by rw [inst0_ft] at hk; simp at hk, hBr⟩

    case pos =>
      have E1 : Hid (D = 0 ∧ E = ⟨true, dsn, pe.rounds, dec⟩) := E4.out.2 hbf
      subst hbf
      clear E4
      have hw23 : w.heap.size + 1 ≤ w2.heap.size := Rb.lt
      obtain ⟨c0, c1, c2, c3⟩ := hPW.box
      dsimp only at c0 c1 c2 c3
      go_wp2_with fail
      clear c0 c1 c2 c3
      refine (hco w2 (hrb w2 hB)).mono ?_
      rintro e w3 ⟨q, rfl, eq, oq, nq, gq, hb3⟩
      replace Rb := Rb.below hb3
      replace hB := hB.trans (hb3.mono hB.size)
      obtain ⟨qh, qb, qbs, qr, qrs, qd, qds⟩ := q
      obtain ⟨s1, t1, rfl⟩ : ∃ a c, qb = .slice a qbs.length c := oq.1.shape
      obtain ⟨s2, t2, rfl⟩ : ∃ a c, qr = .slice a qrs.length c := oq.2.1.shape
      obtain ⟨s3, t3, rfl⟩ : ∃ a c, qd = .slice a qds.length c := oq.2.2.shape
      have hbA : Below w3.heap.size w3 (w3.alloc (.cells #[.bool true, .slice s1 qbs.length t1, .slice s2 qrs.length t2, .slice s3 qds.length t3] 28)) := by go_grown
      have Gz := Blk.new w3 28 #[.bool true, .slice s1 qbs.length t1, .slice s2 qrs.length t2, .slice s3 qds.length t3]
      have hn23 := (List.nodup_append.1 nq).2.1
      have o2 := oq.2.1
      have o3 := oq.2.2
      have M2 := o2.lt
      have M3 := o3.lt
      have hs23 := hb3.size
      have L2 : ∀ k ∈ roundK.fp (.slice s2 qrs.length t2) qrs, w2.heap.size ≤ k := fun k hk => gq k (List.mem_append_right _ (List.mem_append_left _ hk))
      have L3 : ∀ k ∈ intK.fp (.slice s3 qds.length t3) qds, w2.heap.size ≤ k := fun k hk => gq k (List.mem_append_right _ (List.mem_append_right _ hk))
      have HQE : Hid (pe.rounds = qrs.map RoundQ.e ∧ qds = dec) := by
        have e1 : pe.dec = dec := HPE.out.2
        rw [← eq] at e1 ⊢
        exact ⟨rfl, e1⟩
      replace o2 := o2.below hbA
      replace o3 := o3.below hbA
      replace Rb := Rb.below hbA
      replace hB := hB.trans (hbA.mono hB.size)
      clear hco gq nq oq eq hb3 HPE
      go_wp2_with fail
      have hgz := Gz.lt
      generalize w3.alloc (.cells #[.bool true, .slice s1 qbs.length t1, .slice s2 qrs.length t2, .slice s3 qds.length t3] 28) = W3 at *
      refine (hin (by trivial) W3 (hT.below hB)).mono ?_
      rintro e w4 ⟨v4, qt, rfl, e4, o4, n4, g4, hb4⟩
      obtain ⟨s4, t4, rfl⟩ := o4.shape
      replace o2 := o2.below hb4
      replace o3 := o3.below hb4
      replace Rb := Rb.below hb4
      replace Gz := Gz.below hb4
      replace hB := hB.trans (hb4.mono hB.size)
      have hsb : w3.heap.size ≤ W3.heap.size := hbA.size
      have R5 := Rb.other (b' := w3.heap.size) (by omega) 1 (.slice s4 qt.length t4)
      have G5 : Blk (w4.setCell ⟨w3.heap.size, 1, none⟩ (.slice s4 qt.length t4)) w3.heap.size 28 #[.bool true, .slice s4 qt.length t4, .slice s2 qrs.length t2, .slice s3 qds.length t3] := Gz.set 1 (.slice s4 qt.length t4)
      have hB5 : Below w.heap.size w (w4.setCell ⟨w3.heap.size, 1, none⟩ (.slice s4 qt.length t4)) := hB.setCell (p := ⟨w3.heap.size, 1, none⟩) (by show w.heap.size ≤ w3.heap.size; omega) _
      have U1 := Out.setCell w4 w3.heap.size 1 (.slice s4 qt.length t4)
      have U2 := out_row (w4.setCell ⟨w3.heap.size, 1, none⟩ (.slice s4 qt.length t4)) w.heap.size #[.int .i64 0, .int .i64 0, .bool false, .bool false, .int .i64 0, .bool true, .slice s4 qt.length t4, .slice s2 qrs.length t2, .slice s3 qds.length t3]
      have Rr := R5.row #[.int .i64 0, .int .i64 0, .bool false, .bool false, .int .i64 0, .bool true, .slice s4 qt.length t4, .slice s2 qrs.length t2, .slice s3 qds.length t3]
      have hBr := below_row hB5 (g := w.heap.size) (Nat.le_refl _) #[.int .i64 0, .int .i64 0, .bool false, .bool false, .int .i64 0, .bool true, .slice s4 qt.length t4, .slice s2 qrs.length t2, .slice s3 qds.length t3]
      have hsr : (Tryz.prog.info? 34).map (·.size) = some (#[.int .i64 0, .int .i64 0, .bool false, .bool false, .int .i64 0, .bool true, .slice s4 qt.length t4, .slice s2 qrs.length t2, .slice s3 qds.length t3] : Array Value).size := sz_res
      have K2 := (o2.out U1 (fun k hk => by have := M2 k hk; simp only [List.mem_singleton]; omega)).out U2 (fun k hk => by have := L2 k hk; simp only [List.mem_singleton]; omega)
      have K3 := (o3.out U1 (fun k hk => by have := M3 k hk; simp only [List.mem_singleton]; omega)).out U2 (fun k hk => by have := L3 k hk; simp only [List.mem_singleton]; omega)
      have K4 := (o4.out U1 (fun k hk => by have := g4 k hk; simp only [List.mem_singleton]; omega)).out U2 (fun k hk => by have := g4 k hk; simp only [List.mem_singleton]; omega)
      have HR : Hid (InstQ.e ⟨true, .slice s4 qt.length t4, qt, .slice s2 qrs.length t2, qrs, .slice s3 qds.length t3, qds⟩ = E ∧ (instK.foot ⟨true, .slice s4 qt.length t4, qt, .slice s2 qrs.length t2, qrs, .slice s3 qds.length t3, qds⟩).Nodup ∧ ∀ k ∈ instK.foot ⟨true, .slice s4 qt.length t4, qt, .slice s2 qrs.length t2, qrs, .slice s3 qds.length t3, qds⟩, w.heap.size ≤ k) := by
        refine ⟨?_, ?_, ?_⟩
        · rw [E1.out.2, HQE.out.1, ← HQE.out.2]
          simp only [InstQ.e, e4]
        · refine List.nodup_append.2 ⟨n4, hn23, fun x hx y hy e => ?_⟩
          have := g4 x hx
          rcases List.mem_append.1 hy with hy | hy
          · have := M2 y hy; omega
          · have := M3 y hy; omega
        · intro k hk
          rcases List.mem_append.1 hk with hk | hk
          · have := g4 k hk; omega
          · rcases List.mem_append.1 hk with hk | hk
            · have := L2 k hk; omega
            · have := L3 k hk; omega
      have HD0 : Hid (D = 0) := E1.out.1
      have k0 := Gz.cell 0 _ rfl
      have k1 := Gz.cell 1 _ rfl
      have k2 := Gz.cell 2 _ rfl
      have k3 := Gz.cell 3 _ rfl
      have kf := Gz.frozen 1
      clear hin e4 o4 n4 g4 hb4 o2 o3 M2 M3 L2 L3 hn23 U1 U2 E1 HQE hbA Gz G5 Rb
      go_wp2_with (first | (refine st_row (by kernel_rfl) 34 _ _ rfl _ #[.int .i64 0, .int .i64 0, .bool false, .bool false, .int .i64 0, .bool true, .slice s4 qt.length t4, .slice s2 qrs.length t2, .slice s3 qds.length t3] rfl rfl 34 _ R5 hsr rfl (by simp [Value.oneCell']) ?_))
      have q0 := Rr.cell 0 _ rfl
      have q1 := Rr.cell 1 _ rfl
      have q2 := Rr.cell 2 _ rfl
      have q3 := Rr.cell 3 _ rfl
      have q4 := Rr.cell 4 _ rfl
      have q5 := Rr.cell 5 _ rfl
      have q6 := Rr.cell 6 _ rfl
      have q7 := Rr.cell 7 _ rfl
      have q8 := Rr.cell 8 _ rfl
      exact bodyPost_ret (v := .agg #[.int .i64 0, .int .i64 0, .bool false, .bool false, .int .i64 0, .bool true, .slice s4 qt.length t4, .slice s2 qrs.length t2, .slice s3 qds.length t3]) (by simp [results, Tryz.results79, go_sem, q0, q1, q2, q3, q4, q5, q6, q7, q8]) rfl ⟨⟨true, .slice s4 qt.length t4, qt, .slice s2 qrs.length t2, qrs, .slice s3 qds.length t3, qds⟩, by rw [HD0.out], HR.out.1, ⟨K4, K2, K3⟩, HR.out.2.1, HR.out.2.2, hBr⟩

set_option maxHeartbeats 4000000 in
theorem specSetBatch_any (p : InstQ) (vn : Value) (bt : List TxnQ) (w : World) (h : instK.rd w p) (hl : p.n ≤ 1048576) (hT : txnK.At w vn bt) (hl' : bt.length + nmL TxnQ.n bt ≤ 1048576) :
    Calls Tryz.prog 17 #[.agg #[.bool p.has, p.vb, p.vr, p.vd], vn] w fun e w' => ∃ q : InstQ, e = .returned (.agg (resC (sbC p.e (bt.map TxnQ.e)) 0 false false 0 q)) ∧ q.e = sbI p.e (bt.map TxnQ.e) ∧ instK.own w' q ∧ (instK.foot q).Nodup ∧ (∀ k ∈ instK.foot q, w.heap.size ≤ k) ∧ Below w.heap.size w w' := by
  have hB : Below w.heap.size w ((w.alloc (.cells #[.bool p.has, p.vb, p.vr, p.vd] 28)).alloc (.cells #[.int .i64 0, .int .i64 0, .bool false, .bool false, .int .i64 0, .bool false, .slice none 0 0, .slice none 0 0, .slice none 0 0] 34)) := by go_grown
  have Rb := Blk.new (w.alloc (.cells #[.bool p.has, p.vb, p.vr, p.vd] 28)) 34 #[.int .i64 0, .int .i64 0, .bool false, .bool false, .int .i64 0, .bool false, .slice none 0 0, .slice none 0 0, .slice none 0 0]
  rw [World.size_alloc] at Rb
  have hws : w.heap.size + 2 ≤ ((w.alloc (.cells #[.bool p.has, p.vb, p.vr, p.vd] 28)).alloc (.cells #[.int .i64 0, .int .i64 0, .bool false, .bool false, .int .i64 0, .bool false, .slice none 0 0, .slice none 0 0, .slice none 0 0] 34)).heap.size := by simp
  have hP : InstP ((w.alloc (.cells #[.bool p.has, p.vb, p.vr, p.vd] 28)).alloc (.cells #[.int .i64 0, .int .i64 0, .bool false, .bool false, .int .i64 0, .bool false, .slice none 0 0, .slice none 0 0, .slice none 0 0] 34)) w.heap.size 0 p := ⟨(box4_new w _ _ _ _ 28).below (by go_grown), instK.rd_below h hB⟩
  have hf1 := l6Fault_any w.heap.size 0 p _ hP hl
  have hst := fun w' hP hb h0 hT => l6Set_any w.heap.size 0 p vn bt w' hP hb hl h0 hT hl'
  have HC : Hid (insF p.e ≠ 0 → sbC p.e (bt.map TxnQ.e) = insF p.e ∧ sbI p.e (bt.map TxnQ.e) = ine0) := fun h0 => by
    have e : sbC p.e (bt.map TxnQ.e) = insF p.e := if_neg h0
    exact ⟨e, if_neg (by rw [e]; exact h0)⟩
  generalize sbC p.e (bt.map TxnQ.e) = D at *
  generalize sbI p.e (bt.map TxnQ.e) = E at *
  generalize insF p.e = C at *
  obtain ⟨na, nk, rfl⟩ := hT.shape
  go_enter Tryz.func17, Tryz.ntmps17
  go_wp2_with fail
  generalize (w.alloc (.cells #[.bool p.has, p.vb, p.vr, p.vd] 28)).alloc (.cells #[.int .i64 0, .int .i64 0, .bool false, .bool false, .int .i64 0, .bool false, .slice none 0 0, .slice none 0 0, .slice none 0 0] 34) = W at *
  refine hf1.mono ?_
  rintro e w1 ⟨rfl, hb1⟩
  replace hB := hB.trans (hb1.mono hB.size)
  replace Rb := Rb.below hb1
  have hP1 := hP.below hb1
  have hws1 : w.heap.size + 2 ≤ w1.heap.size := by have := hb1.size; omega
  clear hf1 hb1 hP
  by_cases h0 : C = 0
  case neg =>
    have E1 : Hid (D = C ∧ E = ine0) := HC.out h0
    have h0' : (C != 0) = true := by simpa using h0
    clear HC h0 hst
    go_wp2_with fail
    refine (l6Bad_any C _).mono ?_
    rintro e w8 ⟨rfl, hb8⟩
    replace hB := hB.trans (hb8.mono hB.size)
    replace Rb := Rb.below hb8
    clear hb8
    have Rr := Rb.row #[.int .i64 C, .int .i64 0, .bool false, .bool false, .int .i64 0, .bool false, .slice none 0 0, .slice none 0 0, .slice none 0 0]
    have hBr := below_row hB (g := w.heap.size + 1) (by omega) #[.int .i64 C, .int .i64 0, .bool false, .bool false, .int .i64 0, .bool false, .slice none 0 0, .slice none 0 0, .slice none 0 0]
    have hsr : (Tryz.prog.info? 34).map (·.size) = some (#[.int .i64 C, .int .i64 0, .bool false, .bool false, .int .i64 0, .bool false, .slice none 0 0, .slice none 0 0, .slice none 0 0] : Array Value).size := sz_res
    go_wp2_with (first | (refine st_row (by kernel_rfl) 34 _ _ rfl _ #[.int .i64 C, .int .i64 0, .bool false, .bool false, .int .i64 0, .bool false, .slice none 0 0, .slice none 0 0, .slice none 0 0] rfl rfl 34 _ Rb hsr rfl (by simp [Value.oneCell']) ?_))
    have q0 := Rr.cell 0 _ rfl
    have q1 := Rr.cell 1 _ rfl
    have q2 := Rr.cell 2 _ rfl
    have q3 := Rr.cell 3 _ rfl
    have q4 := Rr.cell 4 _ rfl
    have q5 := Rr.cell 5 _ rfl
    have q6 := Rr.cell 6 _ rfl
    have q7 := Rr.cell 7 _ rfl
    have q8 := Rr.cell 8 _ rfl
    exact bodyPost_ret (v := .agg #[.int .i64 C, .int .i64 0, .bool false, .bool false, .int .i64 0, .bool false, .slice none 0 0, .slice none 0 0, .slice none 0 0]) (by simp [results, Tryz.results17, go_sem, q0, q1, q2, q3, q4, q5, q6, q7, q8]) rfl ⟨inst0, by rw [E1.out.1]; rfl, E1.out.2.symm, inst0_own _, inst0_nd, fun k hk => by rw [inst0_ft] at hk; simp at hk, hBr⟩

  case pos =>
    subst h0
    clear HC
    go_wp2_with fail
    refine (hst w1 hP1 (by omega) (by trivial) (hT.below hB)).mono ?_
    rintro e w2 ⟨q, rfl, eq, oq, nq, gq, hb2⟩
    replace Rb := Rb.below hb2
    replace hB := hB.trans (hb2.mono hB.size)
    have HQ : Hid (q.e = E ∧ (instK.foot q).Nodup ∧ (∀ k ∈ instK.foot q, w.heap.size ≤ k) ∧ ∀ cs, instK.own (w2.setRow (w.heap.size + 1) cs) q) := ⟨eq, nq, fun k hk => by have := gq k hk; omega, fun cs => instK.own_out oq (out_row w2 (w.heap.size + 1) cs) (fun k hk => by have := gq k hk; simp only [List.mem_singleton]; omega)⟩
    clear hst hP1 hb2 eq nq gq
    obtain ⟨qh, qb, qbs, qr, qrs, qd, qds⟩ := q
    obtain ⟨s1, t1, rfl⟩ : ∃ a c, qb = .slice a qbs.length c := oq.1.shape
    obtain ⟨s2, t2, rfl⟩ : ∃ a c, qr = .slice a qrs.length c := oq.2.1.shape
    obtain ⟨s3, t3, rfl⟩ : ∃ a c, qd = .slice a qds.length c := oq.2.2.shape
    have Rr := Rb.row #[.int .i64 D, .int .i64 0, .bool false, .bool false, .int .i64 0, .bool qh, .slice s1 qbs.length t1, .slice s2 qrs.length t2, .slice s3 qds.length t3]
    have hBr := below_row hB (g := w.heap.size + 1) (by omega) #[.int .i64 D, .int .i64 0, .bool false, .bool false, .int .i64 0, .bool qh, .slice s1 qbs.length t1, .slice s2 qrs.length t2, .slice s3 qds.length t3]
    have hsr : (Tryz.prog.info? 34).map (·.size) = some (#[.int .i64 D, .int .i64 0, .bool false, .bool false, .int .i64 0, .bool qh, .slice s1 qbs.length t1, .slice s2 qrs.length t2, .slice s3 qds.length t3] : Array Value).size := sz_res
    clear oq
    go_wp2_with (first | (refine st_row (by kernel_rfl) 34 _ _ rfl _ #[.int .i64 D, .int .i64 0, .bool false, .bool false, .int .i64 0, .bool qh, .slice s1 qbs.length t1, .slice s2 qrs.length t2, .slice s3 qds.length t3] rfl rfl 34 _ Rb hsr rfl (by simp [Value.oneCell']) ?_))
    have q0 := Rr.cell 0 _ rfl
    have q1 := Rr.cell 1 _ rfl
    have q2 := Rr.cell 2 _ rfl
    have q3 := Rr.cell 3 _ rfl
    have q4 := Rr.cell 4 _ rfl
    have q5 := Rr.cell 5 _ rfl
    have q6 := Rr.cell 6 _ rfl
    have q7 := Rr.cell 7 _ rfl
    have q8 := Rr.cell 8 _ rfl
    exact bodyPost_ret (v := .agg #[.int .i64 D, .int .i64 0, .bool false, .bool false, .int .i64 0, .bool qh, .slice s1 qbs.length t1, .slice s2 qrs.length t2, .slice s3 qds.length t3]) (by simp [results, Tryz.results17, go_sem, q0, q1, q2, q3, q4, q5, q6, q7, q8]) rfl ⟨⟨qh, .slice s1 qbs.length t1, qbs, .slice s2 qrs.length t2, qrs, .slice s3 qds.length t3, qds⟩, rfl, HQ.out.1, HQ.out.2.2.2 _, HQ.out.2.1, HQ.out.2.2.1, hBr⟩

end Go.Proofs.YtpjmlidbligcbaaGreatDoor

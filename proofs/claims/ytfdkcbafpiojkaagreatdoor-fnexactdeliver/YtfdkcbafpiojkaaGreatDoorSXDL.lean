/- The law FnExactDeliver, walked: at every replica that can be read and every list of transactions it answers true, and it writes into nothing that was there. -/
import Derived.Test.YtfdkcbafpiojkaaGreatDoorSXBD
import Derived.Test.YtfdkcbafpiojkaaGreatDoorSXBE
namespace Go.Proofs.YtfdkcbafpiojkaaGreatDoor
open Go.RowKit
open Go.BigFrame
set_option linter.unusedVariables false
set_option maxRecDepth 100000
set_option linter.unusedSimpArgs false

theorem Blk.outs9 {w w' : World} {b : Nat} {t : TypeId} {cs : Array Value} {F : List Nat} (h : Blk w b t cs) (hU : Out F w w') (hF : b ∉ F) : Blk w' b t cs := (hU.block b h.lt hF).trans h
theorem nmRep_le9 (p : RepQ) : nmRep p ≤ 3 * p.n := by
  obtain ⟨vd, done, vb, base, vt, tent, vu, undos, vn, now⟩ := p
  have h1 := nmTx9_le done
  have h2 := nmTx9_le tent
  have h3 := nmUs9_le undos
  simp only [nmRep, RepQ.n]
  omega
theorem txns_n9 {b c : List TxnQ} (h : b.map TxnQ.e = c.map TxnQ.e) : b.length + nmL TxnQ.n b = c.length + nmL TxnQ.n c := txq_n9 h
theorem dl_n9 {q : RepQ} {r : RepE} {fs : List TxnD} (h : q.e = dlE r fs) : q.n ≤ 1048576 := by
  unfold dlE at h
  by_cases h0 : dlC r fs = 0
  · rw [if_pos h0] at h
    obtain ⟨z0, z1, z2, z3, z4, z5, z6, z7⟩ := dlC_zero h0
    have := mk_small h z5 z6 (by rw [List.length_append]; omega) (by omega)
    omega
  · rw [if_neg h0] at h
    have := rep_n (p := q) (q := rep0) h
    rw [this]
    simp [RepQ.n, rep0, nmL]
theorem specDeliver_e (p : RepQ) (vn : Value) (bt : List TxnQ) (x : RepE) (y : List TxnD) (hy : bt.map TxnQ.e = y) (hx : p.e = x) (w : World) (h : repK.own w p) (hT : txnK.Own w vn bt) (hl : p.n ≤ 1048576) (hl' : bt.length + nmL TxnQ.n bt ≤ 1048576) :
    Calls Tryz.prog 25 #[.agg #[p.vd, p.vb, p.vt, p.vu, p.vn], vn] w fun e w' => ∃ q : RepQ, e = .returned (.agg #[.int .i64 (dlC x y), .int .i64 (dlA x y), .int .i64 0, q.vd, q.vb, q.vt, q.vu, q.vn]) ∧ q.e = dlE x y ∧ repK.own w' q ∧ (repK.foot q).Nodup ∧ (∀ k ∈ repK.foot q, w.heap.size ≤ k) ∧ Below w.heap.size w w' := by
  subst hx hy
  exact specDeliver_any p vn bt w h hT hl hl'
theorem implDeliver_e (p : RepQ) (vn : Value) (bt : List TxnQ) (x : RepE) (y : List TxnD) (hy : bt.map TxnQ.e = y) (hx : p.e = x) (w : World) (hG : ErrT w) (h : repK.own w p) (hT : txnK.Own w vn bt) (hl : p.n ≤ 1048576) (hl' : bt.length + nmL TxnQ.n bt ≤ 1048576) :
    Calls Tryz.prog 27 #[.agg #[p.vd, p.vb, p.vt, p.vu, p.vn], vn] w fun e w' => ∃ q : RepQ, e = .returned (.agg #[.int .i64 (dlC x y), .int .i64 (dlA x y), .int .i64 0, q.vd, q.vb, q.vt, q.vu, q.vn]) ∧ q.e = dlE x y ∧ repK.own w' q ∧ (repK.foot q).Nodup ∧ (∀ k ∈ repK.foot q, w.heap.size ≤ k) ∧ Below w.heap.size w w' := by
  subst hx hy
  exact implDeliver_any p vn bt w hG h hT hl hl'

set_option maxRecDepth 100000 in
set_option maxHeartbeats 16000000 in
theorem deliverLaw (p : RepQ) (vn : Value) (bt : List TxnQ) (w : World) (hG : ErrT w) (h : repK.rd w p) (hn : p.wf) (hT : txnK.At w vn bt) (hbl : bt.length ≤ 9223372036854775807) (hbw : ∀ t ∈ bt, TxnQ.wf t) :
    Calls Tryz.prog 5 #[.agg #[p.vd, p.vb, p.vt, p.vu, p.vn], vn] w fun e w' => e = .returned (.bool true) ∧ Below w.heap.size w w' := by
  have hsz := fun w h => szReplica_k p 1048576 w h hn (by omega) (by omega)
  have hto := fun w h hl => toReplica_k p w h hl
  have hszT := fun c w h h0 h1 => szTxns_k vn bt c w h hbl hbw h0 h1
  have htoT := fun w h hl => toTxns_k vn bt w h hl
  have hsp := fun q v b (hq : RepQ.e q = p.e) (hb : b.map TxnQ.e = bt.map TxnQ.e) w h hT hl hl' => specDeliver_e q v b _ _ hb hq w h hT hl hl'
  have him := fun q v b (hq : RepQ.e q = p.e) (hb : b.map TxnQ.e = bt.map TxnQ.e) w hG h hT hl hl' => implDeliver_e q v b _ _ hb hq w hG h hT hl hl'
  have hbnn : ∀ b : List TxnQ, b.map TxnQ.e = bt.map TxnQ.e → b.length + nmL TxnQ.n b = bt.length + nmL TxnQ.n bt := fun b hb => txns_n9 hb
  have hqs : ∀ q : RepQ, q.e = dlE p.e (bt.map TxnQ.e) → q.n ≤ 1048576 := fun q hq => dl_n9 hq
  have hqn : ∀ q : RepQ, q.e = p.e → q.n = p.n := fun q hq => rep_n hq
  have hrb := fun (w' : World) hb => repK.rd_below (w' := w') h hb
  generalize dlC p.e (bt.map TxnQ.e) = D at *
  generalize dlA p.e (bt.map TxnQ.e) = A at *
  generalize dlE p.e (bt.map TxnQ.e) = E at *
  generalize hV0 : (0 : Int) = V at hsp him
  generalize hpe : p.e = pe at *
  generalize hpn : p.n = pn at *
  generalize hbe : bt.map TxnQ.e = be at *
  generalize hbn : bt.length + nmL TxnQ.n bt = bn at *
  obtain ⟨vd, done, vb, base, vt, tent, vu, undos, vn, now⟩ := p
  obtain ⟨da, dk, rfl⟩ : ∃ a c, vd = .slice a done.length c := h.1.shape
  obtain ⟨ba, bk, rfl⟩ : ∃ a c, vb = .slice a base.length c := h.2.1.shape
  obtain ⟨ta, tk, rfl⟩ : ∃ a c, vt = .slice a tent.length c := h.2.2.1.shape
  obtain ⟨ua, uk, rfl⟩ : ∃ a c, vu = .slice a undos.length c := h.2.2.2.1.shape
  obtain ⟨na, nk, rfl⟩ : ∃ a c, vn = .slice a now.length c := h.2.2.2.2.shape
  obtain ⟨na2, nk2, rfl⟩ := hT.shape
  dsimp only at hsz hto hrb
  clear hV0
  have b0 : Below w.heap.size w (w.alloc (.cells #[.slice da done.length dk, .slice ba base.length bk, .slice ta tent.length tk, .slice ua undos.length uk, .slice na now.length nk] 26)) := by go_grown
  have A0 := Blk.new w 26 #[.slice da done.length dk, .slice ba base.length bk, .slice ta tent.length tk, .slice ua undos.length uk, .slice na now.length nk]
  go_enter Tryz.func5, Tryz.ntmps5
  go_wp2_with fail
  generalize w.alloc (.cells #[.slice da done.length dk, .slice ba base.length bk, .slice ta tent.length tk, .slice ua undos.length uk, .slice na now.length nk] 26) = W at *
  refine (hsz W (hrb W b0)).mono ?_
  rintro e w1 ⟨r, rfl, hr, hb⟩
  replace A0 := A0.below hb
  replace b0 := b0.trans (hb.mono b0.size)
  clear hb
  clear hsz
  by_cases hneg : r < 0
  · go_wp2
    go_ret
    exact ⟨rfl, b0⟩
  have hl : (pn : Int) + r = 1048576 := hr (by omega)
  clear hr
  go_wp2_with fail
  refine (hszT r w1 (hT.below b0) (by omega) (by omega)).mono ?_
  rintro e X ⟨r', rfl, hr, hb⟩
  replace A0 := A0.below hb
  replace b0 := b0.trans (hb.mono b0.size)
  clear hb
  clear hszT
  by_cases hneg' : r' < 0
  · go_wp2
    go_ret
    exact ⟨rfl, b0⟩
  have hl' : ((bn : Nat) : Int) + r' = r := hr (by omega)
  clear hr
  replace hl' : bn ≤ 1048576 := by omega
  replace hl : pn ≤ 1048576 := by omega
  have p0 := A0.cell 0 _ rfl
  have p1 := A0.cell 1 _ rfl
  have p2 := A0.cell 2 _ rfl
  have p3 := A0.cell 3 _ rfl
  have p4 := A0.cell 4 _ rfl
  go_wp2_with fail
  clear p0 p1 p2 p3 p4
  clear hneg hneg'
  refine (hto X (hrb X b0) hl).mono ?_
  rintro e w3 ⟨q1, rfl, e1, o1, n1, g1, hb⟩
  replace A0 := A0.below hb
  replace b0 := b0.trans (hb.mono b0.size)
  clear hb
  clear n1 g1
  go_wp2_with fail
  refine (htoT w3 (hT.below b0) hl').mono ?_
  rintro e w4 ⟨v2, c2, rfl, f2, t2, n2, g2, hb⟩
  replace o1 := repK.own_out (F := []) o1 (Out.of_below hb) (fun _ _ => by simp)
  replace A0 := A0.below hb
  replace b0 := b0.trans (hb.mono b0.size)
  clear hb
  clear n2 g2
  go_wp2_with fail
  refine (hsp q1 v2 c2 e1 f2 w4 o1 t2 (by rw [hqn q1 e1]; exact hl) (by rw [hbnn c2 f2]; exact hl')).mono ?_
  rintro e w5 ⟨qs, rfl, es, os, ns, gs, hb⟩
  have hA4 := A0.lt
  have us : ∀ k ∈ repK.foot qs, w.heap.size < k ∧ k < w5.heap.size := fun k hk => ⟨by have := gs k hk; omega, repK.own_lt os k hk⟩
  replace A0 := A0.below hb
  replace b0 := b0.trans (hb.mono b0.size)
  clear hb
  clear hsp e1 f2 t2 o1 ns gs hA4
  have hw5 : w.heap.size < w5.heap.size := A0.lt
  have hls : RepQ.n qs ≤ 1048576 := hqs qs es
  obtain ⟨vds, dones, vbs, bases, vts, tents, vus, undoss, vns, nows⟩ := qs
  obtain ⟨das, dks, rfl⟩ : ∃ a c, vds = .slice a dones.length c := os.1.shape
  obtain ⟨bas, bks, rfl⟩ : ∃ a c, vbs = .slice a bases.length c := os.2.1.shape
  obtain ⟨tas, tks, rfl⟩ : ∃ a c, vts = .slice a tents.length c := os.2.2.1.shape
  obtain ⟨uas, uks, rfl⟩ : ∃ a c, vus = .slice a undoss.length c := os.2.2.2.1.shape
  obtain ⟨nas, nks, rfl⟩ : ∃ a c, vns = .slice a nows.length c := os.2.2.2.2.shape
  have S0 := Blk.new w5 34 #[.int .i64 D, .int .i64 A, .int .i64 V, .slice das dones.length dks, .slice bas bases.length bks, .slice tas tents.length tks, .slice uas undoss.length uks, .slice nas nows.length nks]
  have hb : Below w5.heap.size w5 (w5.alloc (.cells #[.int .i64 D, .int .i64 A, .int .i64 V, .slice das dones.length dks, .slice bas bases.length bks, .slice tas tents.length tks, .slice uas undoss.length uks, .slice nas nows.length nks] 34)) := by go_grown
  replace A0 := A0.below hb
  replace os := repK.own_out (F := []) os (Out.of_below hb) (fun _ _ => by simp)
  replace b0 := b0.trans (hb.mono b0.size)
  clear hb
  have p0 := A0.cell 0 _ rfl
  have p1 := A0.cell 1 _ rfl
  have p2 := A0.cell 2 _ rfl
  have p3 := A0.cell 3 _ rfl
  have p4 := A0.cell 4 _ rfl
  go_wp2_with fail
  clear p0 p1 p2 p3 p4
  generalize w5.alloc (.cells #[.int .i64 D, .int .i64 A, .int .i64 V, .slice das dones.length dks, .slice bas bases.length bks, .slice tas tents.length tks, .slice uas undoss.length uks, .slice nas nows.length nks] 34) = W5 at *
  refine (hto W5 (hrb W5 b0) hl).mono ?_
  rintro e w6 ⟨q2, rfl, e2, o2, n2, g2, hb⟩
  have hS5 := S0.lt
  have h56 := hb.size
  have u2 : ∀ k ∈ repK.foot q2, w5.heap.size < k ∧ k < w6.heap.size := fun k hk => ⟨by have := g2 k hk; omega, repK.own_lt o2 k hk⟩
  replace A0 := A0.below hb
  replace S0 := S0.below hb
  replace os := repK.own_out (F := []) os (Out.of_below hb) (fun _ _ => by simp)
  replace b0 := b0.trans (hb.mono b0.size)
  clear hb
  clear g2
  have hw6 : w5.heap.size < w6.heap.size := S0.lt
  have hl2 : RepQ.n q2 ≤ 1048576 := by rw [hqn q2 e2]; exact hl
  have nd2 := o2.1.niceV
  have nt2 := o2.2.2.1.niceV
  have hi2 := fun v b hb' w hG h hT hl' => him q2 v b e2 hb' w hG h hT hl2 hl'
  obtain ⟨vd2, done2, vb2, base2, vt2, tent2, vu2, undos2, vn2, now2⟩ := q2
  obtain ⟨da2, dk2, rfl⟩ : ∃ a c, vd2 = .slice a done2.length c := o2.1.shape
  obtain ⟨ba2, bk2, rfl⟩ : ∃ a c, vb2 = .slice a base2.length c := o2.2.1.shape
  obtain ⟨ta2, tk2, rfl⟩ : ∃ a c, vt2 = .slice a tent2.length c := o2.2.2.1.shape
  obtain ⟨ua2, uk2, rfl⟩ : ∃ a c, vu2 = .slice a undos2.length c := o2.2.2.2.1.shape
  obtain ⟨na2, nk2, rfl⟩ : ∃ a c, vn2 = .slice a now2.length c := o2.2.2.2.2.shape
  dsimp only at hi2
  clear nd2 nt2
  have X0 := Blk.new w6 32 #[.slice da2 done2.length dk2, .slice ba2 base2.length bk2, .slice ta2 tent2.length tk2, .slice ua2 undos2.length uk2, .slice na2 now2.length nk2]
  have hb : Below w6.heap.size w6 (w6.alloc (.cells #[.slice da2 done2.length dk2, .slice ba2 base2.length bk2, .slice ta2 tent2.length tk2, .slice ua2 undos2.length uk2, .slice na2 now2.length nk2] 32)) := by go_grown
  replace A0 := A0.below hb
  replace S0 := S0.below hb
  replace os := repK.own_out (F := []) os (Out.of_below hb) (fun _ _ => by simp)
  replace o2 := repK.own_out (F := []) o2 (Out.of_below hb) (fun _ _ => by simp)
  replace b0 := b0.trans (hb.mono b0.size)
  clear hb
  go_wp2_with fail
  generalize w6.alloc (.cells #[.slice da2 done2.length dk2, .slice ba2 base2.length bk2, .slice ta2 tent2.length tk2, .slice ua2 undos2.length uk2, .slice na2 now2.length nk2] 32) = W6 at *
  refine (htoT W6 (hT.below b0) hl').mono ?_
  rintro e w7 ⟨v3, c3, rfl, e3, o3, n3, g3, hb⟩
  have hX6 := X0.lt
  have h67 := hb.size
  have u3 : ∀ k ∈ txnK.fp v3 c3, w6.heap.size < k ∧ k < w7.heap.size := fun k hk => ⟨by have := g3 k hk; omega, o3.lt k hk⟩
  replace A0 := A0.below hb
  replace S0 := S0.below hb
  replace X0 := X0.below hb
  replace os := repK.own_out (F := []) os (Out.of_below hb) (fun _ _ => by simp)
  replace o2 := repK.own_out (F := []) o2 (Out.of_below hb) (fun _ _ => by simp)
  replace b0 := b0.trans (hb.mono b0.size)
  clear hb
  clear g3
  have hX7 := X0.lt
  obtain ⟨ta3, tk3, rfl⟩ := o3.shape
  have p0 := X0.cell 0 _ rfl
  have p1 := X0.cell 1 _ rfl
  have p2 := X0.cell 2 _ rfl
  have p3 := X0.cell 3 _ rfl
  have p4 := X0.cell 4 _ rfl
  go_wp2_with fail
  clear p0 p1 p2 p3 p4
  have hlb3 : c3.length + nmL TxnQ.n c3 ≤ 1048576 := by rw [hbnn c3 e3]; exact hl'
  refine (hi2 _ c3 e3 w7 (hG.below b0) o2 o3 hlb3).mono ?_
  rintro e w8 ⟨qi, rfl, ei, oi, ni, gi, hb⟩
  have h78 := hb.size
  have ui : ∀ k ∈ repK.foot qi, w7.heap.size ≤ k ∧ k < w8.heap.size := fun k hk => ⟨by have := gi k hk; omega, repK.own_lt oi k hk⟩
  replace A0 := A0.below hb
  replace S0 := S0.below hb
  replace X0 := X0.below hb
  replace os := repK.own_out (F := []) os (Out.of_below hb) (fun _ _ => by simp)
  replace o2 := repK.own_out (F := []) o2 (Out.of_below hb) (fun _ _ => by simp)
  replace o3 := o3.below hb
  replace b0 := b0.trans (hb.mono b0.size)
  clear hb
  clear gi hi2
  have hX8 := X0.lt
  have hli : RepQ.n qi ≤ 1048576 := hqs qi ei
  obtain ⟨vdi, donei, vbi, basei, vti, tenti, vui, undosi, vni, nowi⟩ := qi
  obtain ⟨dai, dki, rfl⟩ : ∃ a c, vdi = .slice a donei.length c := oi.1.shape
  obtain ⟨bai, bki, rfl⟩ : ∃ a c, vbi = .slice a basei.length c := oi.2.1.shape
  obtain ⟨tai, tki, rfl⟩ : ∃ a c, vti = .slice a tenti.length c := oi.2.2.1.shape
  obtain ⟨uai, uki, rfl⟩ : ∃ a c, vui = .slice a undosi.length c := oi.2.2.2.1.shape
  obtain ⟨nai, nki, rfl⟩ : ∃ a c, vni = .slice a nowi.length c := oi.2.2.2.2.shape
  have Y0 := Blk.new w8 34 #[.int .i64 D, .int .i64 A, .int .i64 V, .slice dai donei.length dki, .slice bai basei.length bki, .slice tai tenti.length tki, .slice uai undosi.length uki, .slice nai nowi.length nki]
  have hb : Below w8.heap.size w8 (w8.alloc (.cells #[.int .i64 D, .int .i64 A, .int .i64 V, .slice dai donei.length dki, .slice bai basei.length bki, .slice tai tenti.length tki, .slice uai undosi.length uki, .slice nai nowi.length nki] 34)) := by go_grown
  replace A0 := A0.below hb
  replace S0 := S0.below hb
  replace X0 := X0.below hb
  replace os := repK.own_out (F := []) os (Out.of_below hb) (fun _ _ => by simp)
  replace o2 := repK.own_out (F := []) o2 (Out.of_below hb) (fun _ _ => by simp)
  replace oi := repK.own_out (F := []) oi (Out.of_below hb) (fun _ _ => by simp)
  replace o3 := o3.below hb
  replace b0 := b0.trans (hb.mono b0.size)
  clear hb
  have r0 := S0.cell 0 _ rfl
  have r1 := S0.cell 1 _ rfl
  have r2 := S0.cell 2 _ rfl
  have r3 := S0.cell 3 _ rfl
  have r4 := S0.cell 4 _ rfl
  have r5 := S0.cell 5 _ rfl
  have r6 := S0.cell 6 _ rfl
  have r7 := S0.cell 7 _ rfl
  go_wp2_with fail
  clear r0 r1 r2 r3 r4 r5 r6 r7
  generalize w8.alloc (.cells #[.int .i64 D, .int .i64 A, .int .i64 V, .slice dai donei.length dki, .slice bai basei.length bki, .slice tai tenti.length tki, .slice uai undosi.length uki, .slice nai nowi.length nki] 34) = W8 at *
  refine (eqRR_k D A V (⟨.slice dai donei.length dki, donei, .slice bai basei.length bki, basei, .slice tai tenti.length tki, tenti, .slice uai undosi.length uki, undosi, .slice nai nowi.length nki, nowi⟩ : RepQ) (⟨.slice das dones.length dks, dones, .slice bas bases.length bks, bases, .slice tas tents.length tks, tents, .slice uas undoss.length uks, undoss, .slice nas nows.length nks, nows⟩ : RepQ) _ (repK.own_rd oi) (repK.own_rd os) (ei.trans es.symm) hli).mono ?_
  rintro e w9 ⟨rfl, hb⟩
  replace A0 := A0.below hb
  replace S0 := S0.below hb
  replace X0 := X0.below hb
  replace Y0 := Y0.below hb
  replace os := repK.own_out (F := []) os (Out.of_below hb) (fun _ _ => by simp)
  replace o2 := repK.own_out (F := []) o2 (Out.of_below hb) (fun _ _ => by simp)
  replace oi := repK.own_out (F := []) oi (Out.of_below hb) (fun _ _ => by simp)
  replace o3 := o3.below hb
  replace b0 := b0.trans (hb.mono b0.size)
  clear hb
  go_wp2_with fail
  have hW : Below w9.heap.size w9 w9.drew := (Below.refl _ _).drew
  have hnn : Nonempty (Lat w9) := ⟨⟨w9, Below.refl _ _⟩⟩
  have k0 := A0.lat 0 _ rfl
  have k1 := A0.lat 1 _ rfl
  have k2 := A0.lat 2 _ rfl
  have k3 := A0.lat 3 _ rfl
  have k4 := A0.lat 4 _ rfl
  have l0 := X0.lat 0 _ rfl
  have l1 := X0.lat 1 _ rfl
  have l2 := X0.lat 2 _ rfl
  have l3 := X0.lat 3 _ rfl
  have l4 := X0.lat 4 _ rfl
  refine text_begin (S := fun w' => ∃ u : Lat w9, w' = u.val) (by kernel_rfl) ?_
  refine seg_range [(0, 2)] 3 (by kernel_rfl) (by kernel_rfl) (by kernel_rfl) (by kernel_rfl) (by kernel_rfl) ⟨⟨_, hW⟩, rfl⟩ ?_
  simp only [pickR, List.toList_toArray, List.flatMap_cons, List.flatMap_nil, List.drop_succ_cons, List.drop_zero, List.take_succ_cons, List.take_zero, List.cons_append, List.nil_append, List.append_nil]
  repeat go_big_quiet_step (fail)
  refine wpQuiet_nil ?_
  refine call_at 2 (some 42) 11 #[.agg #[.slice da done.length dk, .slice ba base.length bk, .slice ta tent.length tk, .slice ua undos.length uk, .slice na now.length nk]] 2 (by kernel_rfl) (by kernel_rfl) (by kernel_rfl) (by kernel_rfl) (by kernel_rfl) ?_
  refine (hto _ (hrb _ (b0.trans (hW.mono b0.size))) hl).mono ?_
  rintro e wz ⟨q9, rfl, e9, o9, n9, g9, hb9⟩
  replace hW := hW.trans (hb9.mono hW.size)
  clear n9 g9
  clear hb9
  refine ⟨_, rfl, ⟨⟨_, hW⟩, rfl⟩, ?_⟩
  simp only [Act.put, List.setIfInBounds_toArray, List.set_cons_zero, List.set_cons_succ]
  refine call_at 3 (some 43) 14 #[.agg #[.slice da2 done2.length dk2, .slice ba2 base2.length bk2, .slice ta2 tent2.length tk2, .slice ua2 undos2.length uk2, .slice na2 now2.length nk2], .agg #[q9.vd, q9.vb, q9.vt, q9.vu, q9.vn]] 1 (by kernel_rfl) (by kernel_rfl) (by kernel_rfl) (by kernel_rfl) (by kernel_rfl) ?_
  refine (eqReplica_k (⟨.slice da2 done2.length dk2, done2, .slice ba2 base2.length bk2, base2, .slice ta2 tent2.length tk2, tent2, .slice ua2 undos2.length uk2, undos2, .slice na2 now2.length nk2, now2⟩ : RepQ) q9 _ (repK.rd_below (repK.own_rd o2) hW) (repK.own_rd o9) (e2.trans e9.symm) hl2).mono ?_
  rintro e wz ⟨rfl, hb9⟩
  replace hW := hW.trans (hb9.mono hW.size)
  clear hb9
  refine ⟨_, rfl, ⟨⟨_, hW⟩, rfl⟩, ?_⟩
  simp only [Act.put, List.setIfInBounds_toArray, List.set_cons_zero, List.set_cons_succ]
  refine seg_range [(4, 1)] 0 (by kernel_rfl) (by kernel_rfl) (by kernel_rfl) (by kernel_rfl) (by kernel_rfl) ⟨⟨_, hW⟩, rfl⟩ ?_
  simp only [pickR, List.toList_toArray, List.flatMap_cons, List.flatMap_nil, List.drop_succ_cons, List.drop_zero, List.take_succ_cons, List.take_zero, List.cons_append, List.nil_append, List.append_nil]
  repeat go_big_quiet_step (fail)
  refine wpQuiet_nil ?_
  refine text_end (by kernel_rfl) ?_
  clear k0 k1 k2 k3 k4 l0 l1 l2 l3 l4 hnn o9 e9
  replace A0 := A0.below hW
  replace S0 := S0.below hW
  replace X0 := X0.below hW
  replace Y0 := Y0.below hW
  replace os := repK.own_out (F := []) os (Out.of_below hW) (fun _ _ => by simp)
  replace o2 := repK.own_out (F := []) o2 (Out.of_below hW) (fun _ _ => by simp)
  replace oi := repK.own_out (F := []) oi (Out.of_below hW) (fun _ _ => by simp)
  replace o3 := o3.below hW
  replace b0 := b0.trans (hW.mono b0.size)
  clear hW
  go_wp2_with fail
  refine (htoT _ (hT.below b0) hl').mono ?_
  rintro e w11 ⟨v4, c4, rfl, e4, o4, n4, g4, hb⟩
  replace A0 := A0.below hb
  replace S0 := S0.below hb
  replace X0 := X0.below hb
  replace Y0 := Y0.below hb
  replace os := repK.own_out (F := []) os (Out.of_below hb) (fun _ _ => by simp)
  replace o2 := repK.own_out (F := []) o2 (Out.of_below hb) (fun _ _ => by simp)
  replace oi := repK.own_out (F := []) oi (Out.of_below hb) (fun _ _ => by simp)
  replace o3 := o3.below hb
  replace b0 := b0.trans (hb.mono b0.size)
  clear hb
  clear n4 g4
  go_wp2_with fail
  refine (eqTxns_k _ _ c3 c4 w11 o3.at o4.at (e3.trans e4.symm) hlb3).mono ?_
  rintro e w12 ⟨rfl, hb⟩
  replace A0 := A0.below hb
  replace S0 := S0.below hb
  replace X0 := X0.below hb
  replace Y0 := Y0.below hb
  replace os := repK.own_out (F := []) os (Out.of_below hb) (fun _ _ => by simp)
  replace o2 := repK.own_out (F := []) o2 (Out.of_below hb) (fun _ _ => by simp)
  replace oi := repK.own_out (F := []) oi (Out.of_below hb) (fun _ _ => by simp)
  replace o3 := o3.below hb
  replace b0 := b0.trans (hb.mono b0.size)
  clear hb
  clear o4 e4
  have p0 := X0.cell 0 _ rfl
  have p1 := X0.cell 1 _ rfl
  have p2 := X0.cell 2 _ rfl
  have p3 := X0.cell 3 _ rfl
  have p4 := X0.cell 4 _ rfl
  go_wp2_with fail
  clear p0 p1 p2 p3 p4
  have hm2 := nmRep_le9 (⟨.slice da2 done2.length dk2, done2, .slice ba2 base2.length bk2, base2, .slice ta2 tent2.length tk2, tent2, .slice ua2 undos2.length uk2, undos2, .slice na2 now2.length nk2, now2⟩ : RepQ)
  refine (markReplica_k (⟨.slice da2 done2.length dk2, done2, .slice ba2 base2.length bk2, base2, .slice ta2 tent2.length tk2, tent2, .slice ua2 undos2.length uk2, undos2, .slice na2 now2.length nk2, now2⟩ : RepQ) 1 _ o2 n2 hl2 (by omega) (by omega)).mono ?_
  rintro e w13 ⟨rfl, _, hU⟩
  have hNU : ∀ k, k ∈ repK.foot (⟨.slice da2 done2.length dk2, done2, .slice ba2 base2.length bk2, base2, .slice ta2 tent2.length tk2, tent2, .slice ua2 undos2.length uk2, undos2, .slice na2 now2.length nk2, now2⟩ : RepQ) → w5.heap.size < k ∧ k < w6.heap.size := u2
  replace A0 := A0.outs9 hU (fun hk => by have := hNU _ hk; omega)
  replace S0 := S0.outs9 hU (fun hk => by have := hNU _ hk; omega)
  replace X0 := X0.outs9 hU (fun hk => by have := hNU _ hk; omega)
  replace Y0 := Y0.outs9 hU (fun hk => by have := hNU _ hk; omega)
  replace os := repK.own_out os hU (fun k hk hk' => by have := hNU _ hk'; have := us k hk; omega)
  replace oi := repK.own_out oi hU (fun k hk hk' => by have := hNU _ hk'; have := ui k hk; omega)
  replace o3 := o3.out hU (fun k hk hk' => by have := hNU _ hk'; have := u3 k hk; omega)
  replace b0 := Out.keep b0 hU b0.size (fun k hk => by have := hNU _ hk; omega)
  clear hNU hU
  clear o2
  generalize hM2 : (nmRep (⟨.slice da2 done2.length dk2, done2, .slice ba2 base2.length bk2, base2, .slice ta2 tent2.length tk2, tent2, .slice ua2 undos2.length uk2, undos2, .slice na2 now2.length nk2, now2⟩ : RepQ) : Int) = M2 at *
  have hm2' : 0 ≤ M2 ∧ M2 ≤ 4194304 := by omega
  clear hm2 hM2
  have hm3 := nmTx9_le c3
  go_wp2_with fail
  refine (markTxns_k _ c3 (1 + M2) w13 o3 n3 hlb3 (by omega) (by omega)).mono ?_
  rintro e w14 ⟨rfl, _, hU⟩
  have hNU : ∀ k, k ∈ txnK.fp (.slice ta3 c3.length tk3) c3 → w6.heap.size < k ∧ k < w7.heap.size := u3
  replace A0 := A0.outs9 hU (fun hk => by have := hNU _ hk; omega)
  replace S0 := S0.outs9 hU (fun hk => by have := hNU _ hk; omega)
  replace X0 := X0.outs9 hU (fun hk => by have := hNU _ hk; omega)
  replace Y0 := Y0.outs9 hU (fun hk => by have := hNU _ hk; omega)
  replace os := repK.own_out os hU (fun k hk hk' => by have := hNU _ hk'; have := us k hk; omega)
  replace oi := repK.own_out oi hU (fun k hk hk' => by have := hNU _ hk'; have := ui k hk; omega)
  replace b0 := Out.keep b0 hU b0.size (fun k hk => by have := hNU _ hk; omega)
  clear hNU hU
  clear o3
  generalize hM3 : (nmL nmTxn c3 : Int) = M3 at *
  have hm3' : 0 ≤ M3 ∧ M3 ≤ 4194304 := by omega
  have hpos : ¬ (1 + M2 + M3 < 0) := by omega
  clear hm3 hM3
  have p0 := Y0.cell 0 _ rfl
  have p1 := Y0.cell 1 _ rfl
  have p2 := Y0.cell 2 _ rfl
  have p3 := Y0.cell 3 _ rfl
  have p4 := Y0.cell 4 _ rfl
  have p5 := Y0.cell 5 _ rfl
  have p6 := Y0.cell 6 _ rfl
  have p7 := Y0.cell 7 _ rfl
  have r0 := S0.cell 0 _ rfl
  have r1 := S0.cell 1 _ rfl
  have r2 := S0.cell 2 _ rfl
  have r3 := S0.cell 3 _ rfl
  have r4 := S0.cell 4 _ rfl
  have r5 := S0.cell 5 _ rfl
  have r6 := S0.cell 6 _ rfl
  have r7 := S0.cell 7 _ rfl
  go_wp2_with fail
  clear p0 p1 p2 p3 p4 p5 p6 p7
  clear r0 r1 r2 r3 r4 r5 r6 r7
  refine (eqRR_k D A V (⟨.slice dai donei.length dki, donei, .slice bai basei.length bki, basei, .slice tai tenti.length tki, tenti, .slice uai undosi.length uki, undosi, .slice nai nowi.length nki, nowi⟩ : RepQ) (⟨.slice das dones.length dks, dones, .slice bas bases.length bks, bases, .slice tas tents.length tks, tents, .slice uas undoss.length uks, undoss, .slice nas nows.length nks, nows⟩ : RepQ) _ (repK.own_rd oi) (repK.own_rd os) (ei.trans es.symm) hli).mono ?_
  rintro e w15 ⟨rfl, hb⟩
  replace A0 := A0.below hb
  replace S0 := S0.below hb
  replace X0 := X0.below hb
  replace Y0 := Y0.below hb
  replace os := repK.own_out (F := []) os (Out.of_below hb) (fun _ _ => by simp)
  replace oi := repK.own_out (F := []) oi (Out.of_below hb) (fun _ _ => by simp)
  replace b0 := b0.trans (hb.mono b0.size)
  clear hb
  have p0 := Y0.cell 0 _ rfl
  have p1 := Y0.cell 1 _ rfl
  have p2 := Y0.cell 2 _ rfl
  have p3 := Y0.cell 3 _ rfl
  have p4 := Y0.cell 4 _ rfl
  have p5 := Y0.cell 5 _ rfl
  have p6 := Y0.cell 6 _ rfl
  have p7 := Y0.cell 7 _ rfl
  go_wp2_with fail
  clear p0 p1 p2 p3 p4 p5 p6 p7
  have hmi := nmRep_le9 (⟨.slice dai donei.length dki, donei, .slice bai basei.length bki, basei, .slice tai tenti.length tki, tenti, .slice uai undosi.length uki, undosi, .slice nai nowi.length nki, nowi⟩ : RepQ)
  refine (markRR_k D A V (⟨.slice dai donei.length dki, donei, .slice bai basei.length bki, basei, .slice tai tenti.length tki, tenti, .slice uai undosi.length uki, undosi, .slice nai nowi.length nki, nowi⟩ : RepQ) 1 w15 oi ni hli (by omega) (by omega)).mono ?_
  rintro e w16 ⟨rfl, om, hU⟩
  have hNU : ∀ k, k ∈ repK.foot (⟨.slice dai donei.length dki, donei, .slice bai basei.length bki, basei, .slice tai tenti.length tki, tenti, .slice uai undosi.length uki, undosi, .slice nai nowi.length nki, nowi⟩ : RepQ) → w7.heap.size ≤ k ∧ k < w8.heap.size := ui
  replace A0 := A0.outs9 hU (fun hk => by have := hNU _ hk; omega)
  replace S0 := S0.outs9 hU (fun hk => by have := hNU _ hk; omega)
  replace X0 := X0.outs9 hU (fun hk => by have := hNU _ hk; omega)
  replace Y0 := Y0.outs9 hU (fun hk => by have := hNU _ hk; omega)
  replace os := repK.own_out os hU (fun k hk hk' => by have := hNU _ hk'; have := us k hk; omega)
  replace b0 := Out.keep b0 hU b0.size (fun k hk => by have := hNU _ hk; omega)
  clear hNU hU
  clear oi
  have rm := repK.own_rd om
  clear om
  have hmm : Hid (∀ w', Below w16.heap.size w16 w' → repK.rd w' (mkRep 1 (⟨.slice dai donei.length dki, donei, .slice bai basei.length bki, basei, .slice tai tenti.length tki, tenti, .slice uai undosi.length uki, undosi, .slice nai nowi.length nki, nowi⟩ : RepQ))) := fun w' hb => repK.rd_below rm hb
  have hbq : Below w16.heap.size w16 w16 := Below.refl _ _
  have hhe := fun w h => heldRR_k D A V (⟨.slice dai donei.length dki, donei, .slice bai basei.length bki, basei, .slice tai tenti.length tki, tenti, .slice uai undosi.length uki, undosi, .slice nai nowi.length nki, nowi⟩ : RepQ) 1 w h hli (by omega) (by omega)
  generalize hMi : (nmRep (⟨.slice dai donei.length dki, donei, .slice bai basei.length bki, basei, .slice tai tenti.length tki, tenti, .slice uai undosi.length uki, undosi, .slice nai nowi.length nki, nowi⟩ : RepQ) : Int) = Mi at *
  have hmi' : 0 ≤ Mi ∧ Mi ≤ 4194304 := by omega
  have hpi : ¬ (1 + Mi < 0) := by omega
  have hne : ((1 + Mi) != (1 + Mi)) = false := by simp
  clear hmi hMi rm
  have p0 := Y0.cell 0 _ rfl
  have p1 := Y0.cell 1 _ rfl
  have p2 := Y0.cell 2 _ rfl
  have p3 := Y0.cell 3 _ rfl
  have p4 := Y0.cell 4 _ rfl
  have p5 := Y0.cell 5 _ rfl
  have p6 := Y0.cell 6 _ rfl
  have p7 := Y0.cell 7 _ rfl
  go_wp2_with fail
  clear p0 p1 p2 p3 p4 p5 p6 p7
  refine (hhe w16 (hmm.out _ hbq)).mono ?_
  rintro e X17 ⟨rfl, hb⟩
  replace hbq := hbq.trans (hb.mono hbq.size)
  replace A0 := A0.below hb
  replace S0 := S0.below hb
  replace X0 := X0.below hb
  replace Y0 := Y0.below hb
  replace os := repK.own_out (F := []) os (Out.of_below hb) (fun _ _ => by simp)
  replace b0 := b0.trans (hb.mono b0.size)
  clear hb
  have p0 := A0.cell 0 _ rfl
  have p1 := A0.cell 1 _ rfl
  have p2 := A0.cell 2 _ rfl
  have p3 := A0.cell 3 _ rfl
  have p4 := A0.cell 4 _ rfl
  go_wp2_with fail
  clear p0 p1 p2 p3 p4
  refine (hto X17 (hrb X17 b0) hl).mono ?_
  rintro e w18 ⟨q5, rfl, e5, o5, n5, g5, hb⟩
  replace hbq := hbq.trans (hb.mono hbq.size)
  replace A0 := A0.below hb
  replace S0 := S0.below hb
  replace X0 := X0.below hb
  replace Y0 := Y0.below hb
  replace os := repK.own_out (F := []) os (Out.of_below hb) (fun _ _ => by simp)
  replace b0 := b0.trans (hb.mono b0.size)
  clear hb
  clear n5 g5
  go_wp2_with fail
  refine (htoT w18 (hT.below b0) hl').mono ?_
  rintro e w19 ⟨v5, c5, rfl, f5, t5, n5, g5, hb⟩
  replace o5 := repK.own_out (F := []) o5 (Out.of_below hb) (fun _ _ => by simp)
  replace hbq := hbq.trans (hb.mono hbq.size)
  replace A0 := A0.below hb
  replace S0 := S0.below hb
  replace X0 := X0.below hb
  replace Y0 := Y0.below hb
  replace os := repK.own_out (F := []) os (Out.of_below hb) (fun _ _ => by simp)
  replace b0 := b0.trans (hb.mono b0.size)
  clear hb
  clear n5 g5
  go_wp2_with fail
  refine (him q5 v5 c5 e5 f5 w19 (hG.below b0) o5 t5 (by rw [hqn q5 e5]; exact hl) (by rw [hbnn c5 f5]; exact hl')).mono ?_
  rintro e w20 ⟨qh, rfl, eh, oh, nh, gh, hb⟩
  replace hbq := hbq.trans (hb.mono hbq.size)
  replace A0 := A0.below hb
  replace S0 := S0.below hb
  replace X0 := X0.below hb
  replace Y0 := Y0.below hb
  replace os := repK.own_out (F := []) os (Out.of_below hb) (fun _ _ => by simp)
  replace b0 := b0.trans (hb.mono b0.size)
  clear hb
  clear nh gh him e5 f5 t5 o5 hto htoT
  have hlh : RepQ.n qh ≤ 1048576 := hqs qh eh
  obtain ⟨vdh, doneh, vbh, baseh, vth, tenth, vuh, undosh, vnh, nowh⟩ := qh
  obtain ⟨dah, dkh, rfl⟩ : ∃ a c, vdh = .slice a doneh.length c := oh.1.shape
  obtain ⟨bah, bkh, rfl⟩ : ∃ a c, vbh = .slice a baseh.length c := oh.2.1.shape
  obtain ⟨tah, tkh, rfl⟩ : ∃ a c, vth = .slice a tenth.length c := oh.2.2.1.shape
  obtain ⟨uah, ukh, rfl⟩ : ∃ a c, vuh = .slice a undosh.length c := oh.2.2.2.1.shape
  obtain ⟨nah, nkh, rfl⟩ : ∃ a c, vnh = .slice a nowh.length c := oh.2.2.2.2.shape
  have H0 := Blk.new w20 34 #[.int .i64 D, .int .i64 A, .int .i64 V, .slice dah doneh.length dkh, .slice bah baseh.length bkh, .slice tah tenth.length tkh, .slice uah undosh.length ukh, .slice nah nowh.length nkh]
  have hb : Below w20.heap.size w20 (w20.alloc (.cells #[.int .i64 D, .int .i64 A, .int .i64 V, .slice dah doneh.length dkh, .slice bah baseh.length bkh, .slice tah tenth.length tkh, .slice uah undosh.length ukh, .slice nah nowh.length nkh] 34)) := by go_grown
  replace hbq := hbq.trans (hb.mono hbq.size)
  replace A0 := A0.below hb
  replace S0 := S0.below hb
  replace X0 := X0.below hb
  replace Y0 := Y0.below hb
  replace os := repK.own_out (F := []) os (Out.of_below hb) (fun _ _ => by simp)
  replace oh := repK.own_out (F := []) oh (Out.of_below hb) (fun _ _ => by simp)
  replace b0 := b0.trans (hb.mono b0.size)
  clear hb
  have r0 := S0.cell 0 _ rfl
  have r1 := S0.cell 1 _ rfl
  have r2 := S0.cell 2 _ rfl
  have r3 := S0.cell 3 _ rfl
  have r4 := S0.cell 4 _ rfl
  have r5 := S0.cell 5 _ rfl
  have r6 := S0.cell 6 _ rfl
  have r7 := S0.cell 7 _ rfl
  go_wp2_with fail
  clear r0 r1 r2 r3 r4 r5 r6 r7
  generalize w20.alloc (.cells #[.int .i64 D, .int .i64 A, .int .i64 V, .slice dah doneh.length dkh, .slice bah baseh.length bkh, .slice tah tenth.length tkh, .slice uah undosh.length ukh, .slice nah nowh.length nkh] 34) = W20 at *
  refine (eqRR_k D A V (⟨.slice dah doneh.length dkh, doneh, .slice bah baseh.length bkh, baseh, .slice tah tenth.length tkh, tenth, .slice uah undosh.length ukh, undosh, .slice nah nowh.length nkh, nowh⟩ : RepQ) (⟨.slice das dones.length dks, dones, .slice bas bases.length bks, bases, .slice tas tents.length tks, tents, .slice uas undoss.length uks, undoss, .slice nas nows.length nks, nows⟩ : RepQ) _ (repK.own_rd oh) (repK.own_rd os) (eh.trans es.symm) hlh).mono ?_
  rintro e w21 ⟨rfl, hb⟩
  replace hbq := hbq.trans (hb.mono hbq.size)
  replace A0 := A0.below hb
  replace S0 := S0.below hb
  replace X0 := X0.below hb
  replace Y0 := Y0.below hb
  replace H0 := H0.below hb
  replace os := repK.own_out (F := []) os (Out.of_below hb) (fun _ _ => by simp)
  replace oh := repK.own_out (F := []) oh (Out.of_below hb) (fun _ _ => by simp)
  replace b0 := b0.trans (hb.mono b0.size)
  clear hb
  have p0 := Y0.cell 0 _ rfl
  have p1 := Y0.cell 1 _ rfl
  have p2 := Y0.cell 2 _ rfl
  have p3 := Y0.cell 3 _ rfl
  have p4 := Y0.cell 4 _ rfl
  have p5 := Y0.cell 5 _ rfl
  have p6 := Y0.cell 6 _ rfl
  have p7 := Y0.cell 7 _ rfl
  go_wp2_with fail
  clear p0 p1 p2 p3 p4 p5 p6 p7
  refine (hhe w21 (hmm.out _ hbq)).mono ?_
  rintro e w22 ⟨rfl, hb⟩
  replace b0 := b0.trans (hb.mono b0.size)
  clear hb hhe hmm hbq A0 S0 X0 Y0 H0 os oh
  go_wp2
  go_ret
  exact ⟨rfl, b0⟩

end Go.Proofs.YtfdkcbafpiojkaaGreatDoor

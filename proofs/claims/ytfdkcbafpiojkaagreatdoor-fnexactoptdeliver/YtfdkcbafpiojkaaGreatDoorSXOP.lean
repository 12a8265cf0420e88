/- The law FnExactOptDeliver, walked: at every replica that can be read and every transaction it answers true, and it writes into nothing that was there. -/
import Derived.Test.YtfdkcbafpiojkaaGreatDoorSXAZ
import Derived.Test.YtfdkcbafpiojkaaGreatDoorSXBE
namespace Go.Proofs.YtfdkcbafpiojkaaGreatDoor
open Go.RowKit
open Go.BigFrame
set_option linter.unusedVariables false
set_option maxRecDepth 100000
set_option linter.unusedSimpArgs false

theorem Blk.outs9 {w w' : World} {b : Nat} {t : TypeId} {cs : Array Value} {F : List Nat} (h : Blk w b t cs) (hU : Out F w w') (hF : b ∉ F) : Blk w' b t cs := (hU.block b h.lt hF).trans h
theorem nmRep_le9 (p : RepQ) : nmRep p ≤ 3 * p.n := by
  obtain ⟨vd, done, vb, base, vt, tent, vu, undos, vn, now⟩ := p
  have h1 := nmTx9_le done
  have h2 := nmTx9_le tent
  have h3 := nmUs9_le undos
  simp only [nmRep, RepQ.n]
  omega
theorem markTxn1_k (p : TxnQ) (c : Int) (w : World) (h : txnK.own w p) (hl : TxnQ.n p ≤ 1048576) (h0 : 0 ≤ c) (h1 : c ≤ 1099511627776) :
    Calls Tryz.prog 23 #[.agg #[.int .i64 p.i, .int .i64 p.s, .int .i64 p.q, p.va], .int .i64 c] w fun e w' => e = .returned (.int .i64 (c + ((p.acts.length * 3 : Nat) : Int))) ∧ Out (txnK.foot p) w w' := by
  have hA : actK.Own w p.va p.acts := h
  have hl' : p.acts.length ≤ 1048576 := hl
  refine (markTxn_any p.i p.s p.q 0 p.va p.acts.length _ c w hA.1 (by omega) h0 h1).mono ?_
  rintro e w' ⟨rfl, _, hg⟩
  refine ⟨rfl, ?_⟩
  rw [show txnK.foot p = actK.fp p.va p.acts from rfl, actK_fp]
  exact Out.of_grown hg
theorem txn_n9 {q t : TxnQ} (h : q.e = t.e) : q.n = t.n := by
  have := congrArg (fun x => x.acts.length) h
  simpa [TxnQ.e, TxnQ.n] using this
theorem op_n9 {q : RepQ} {r : RepE} {t : TxnD} (h : q.e = opE r t) : q.n ≤ 1048576 := by
  unfold opE at h
  by_cases h0 : opC r t = 0
  · rw [if_pos h0] at h
    obtain ⟨z0, z1, _, _, z4⟩ := opC_zero h0
    have hz := rep_zero z0
    have ha := ((lst_iff _).1 hz.2.1).2.1
    have := mk_small h (fun t ht => ha t (List.mem_append_left _ ht)) (fun x hx => by
      rcases List.mem_append.1 hx with hx | hx
      · exact ha x (List.mem_append_right _ hx)
      · simp only [List.mem_singleton] at hx; subst hx; exact z1) (by omega) (by simp; omega)
    omega
  · rw [if_neg h0] at h
    have := rep_n (p := q) (q := rep0) h
    rw [this]
    simp [RepQ.n, rep0, nmL]
theorem specOptDeliver_e (p : RepQ) (t : TxnQ) (x : RepE) (y : TxnD) (hy : t.e = y) (hx : p.e = x) (w : World) (h : repK.own w p) (hT : txnK.own w t) (hl : p.n ≤ 1048576) (hl' : TxnQ.n t ≤ 1048576) :
    Calls Tryz.prog 19 #[.agg #[p.vd, p.vb, p.vt, p.vu, p.vn], .agg #[.int .i64 t.i, .int .i64 t.s, .int .i64 t.q, t.va]] w fun e w' => ∃ q : RepQ, e = .returned (.agg #[.int .i64 (opC x y), .int .i64 (opA x y), .int .i64 (opV x y), q.vd, q.vb, q.vt, q.vu, q.vn]) ∧ q.e = opE x y ∧ repK.own w' q ∧ (repK.foot q).Nodup ∧ (∀ k ∈ repK.foot q, w.heap.size ≤ k) ∧ Below w.heap.size w w' := by
  subst hx hy
  exact specOptDeliver_any p t w h hT hl hl'
theorem implOptDeliver_e (p : RepQ) (t : TxnQ) (x : RepE) (y : TxnD) (hy : t.e = y) (hx : p.e = x) (w : World) (hG : ErrT w) (h : repK.rd w p) (nd : NiceV p.vd) (nt : NiceV p.vt) (hT : txnK.own w t) (hl : p.n ≤ 1048576) (hl' : TxnQ.n t ≤ 1048576) :
    Calls Tryz.prog 21 #[.agg #[p.vd, p.vb, p.vt, p.vu, p.vn], .agg #[.int .i64 t.i, .int .i64 t.s, .int .i64 t.q, t.va]] w fun e w' => ∃ q : RepQ, e = .returned (.agg #[.int .i64 (opC x y), .int .i64 (opA x y), .int .i64 (opV x y), q.vd, q.vb, q.vt, q.vu, q.vn]) ∧ q.e = opE x y ∧ repK.own w' q ∧ (repK.foot q).Nodup ∧ (∀ k ∈ repK.foot q, w.heap.size ≤ k) ∧ Below w.heap.size w w' := by
  subst hx hy
  exact implOptDeliver_any p t w hG h nd nt (txnK.own_rd hT) hl hl'

set_option maxRecDepth 100000 in
set_option maxHeartbeats 16000000 in
theorem optDeliverLaw (p : RepQ) (t : TxnQ) (w : World) (hG : ErrT w) (h : repK.rd w p) (hn : p.wf) (hp2 : txnK.rd w t) (hpw : TxnQ.wf t) :
    Calls Tryz.prog 4 #[.agg #[p.vd, p.vb, p.vt, p.vu, p.vn], .agg #[.int .i64 t.i, .int .i64 t.s, .int .i64 t.q, t.va]] w fun e w' => e = .returned (.bool true) ∧ Below w.heap.size w w' := by
  have hsz := fun w h => szReplica_k p 1048576 w h hn (by omega) (by omega)
  have hto := fun w h hl => toReplica_k p w h hl
  have hszT := fun c w h h0 h1 => szTxn_k t c w h hpw h0 h1
  have htoT := fun w h hl => toTxn_k t w h hl
  have hsp := fun q b (hq : RepQ.e q = p.e) (hb : TxnQ.e b = t.e) w h hT hl hl' => specOptDeliver_e q b _ _ hb hq w h hT hl hl'
  have him := fun q b (hq : RepQ.e q = p.e) (hb : TxnQ.e b = t.e) w hG h nd nt hT hl hl' => implOptDeliver_e q b _ _ hb hq w hG h nd nt hT hl hl'
  have hqm : ∀ q : TxnQ, q.e = t.e → q.n = t.n := fun q hq => txn_n9 hq
  have hqs : ∀ q : RepQ, q.e = opE p.e t.e → q.n ≤ 1048576 := fun q hq => op_n9 hq
  have hrbT := fun (w' : World) hb => txnK.rd_below (w' := w') hp2 hb
  have hqn : ∀ q : RepQ, q.e = p.e → q.n = p.n := fun q hq => rep_n hq
  have hrb := fun (w' : World) hb => repK.rd_below (w' := w') h hb
  generalize opC p.e t.e = D at *
  generalize opA p.e t.e = A at *
  generalize opV p.e t.e = V at *
  generalize opE p.e t.e = E at *
  generalize hpe : p.e = pe at *
  generalize hpn : p.n = pn at *
  generalize hte : t.e = te at *
  generalize htn : t.n = bn at *
  obtain ⟨vd, done, vb, base, vt, tent, vu, undos, vn, now⟩ := p
  obtain ⟨da, dk, rfl⟩ : ∃ a c, vd = .slice a done.length c := h.1.shape
  obtain ⟨ba, bk, rfl⟩ : ∃ a c, vb = .slice a base.length c := h.2.1.shape
  obtain ⟨ta, tk, rfl⟩ : ∃ a c, vt = .slice a tent.length c := h.2.2.1.shape
  obtain ⟨ua, uk, rfl⟩ : ∃ a c, vu = .slice a undos.length c := h.2.2.2.1.shape
  obtain ⟨na, nk, rfl⟩ : ∃ a c, vn = .slice a now.length c := h.2.2.2.2.shape
  obtain ⟨ti, ts, tq, va, acts⟩ := t
  obtain ⟨xa, xk, rfl⟩ : ∃ a c, va = .slice a acts.length c := (show actK.At w va acts from hp2).shape
  dsimp only at hszT htoT hrbT
  dsimp only at hsz hto hrb
  have b0 : Below w.heap.size w ((w.alloc (.cells #[.slice da done.length dk, .slice ba base.length bk, .slice ta tent.length tk, .slice ua undos.length uk, .slice na now.length nk] 26)).alloc (.cells #[.int .i64 ti, .int .i64 ts, .int .i64 tq, .slice xa acts.length xk] 44)) := by go_grown
  have A0 := (Blk.new w 26 #[.slice da done.length dk, .slice ba base.length bk, .slice ta tent.length tk, .slice ua undos.length uk, .slice na now.length nk]).below (w' := (w.alloc (.cells #[.slice da done.length dk, .slice ba base.length bk, .slice ta tent.length tk, .slice ua undos.length uk, .slice na now.length nk] 26)).alloc (.cells #[.int .i64 ti, .int .i64 ts, .int .i64 tq, .slice xa acts.length xk] 44)) (by go_grown)
  have A1 := Blk.new (w.alloc (.cells #[.slice da done.length dk, .slice ba base.length bk, .slice ta tent.length tk, .slice ua undos.length uk, .slice na now.length nk] 26)) 44 #[.int .i64 ti, .int .i64 ts, .int .i64 tq, .slice xa acts.length xk]
  simp only [World.size_alloc] at A1
  go_enter Tryz.func4, Tryz.ntmps4
  go_wp2_with fail
  generalize (w.alloc (.cells #[.slice da done.length dk, .slice ba base.length bk, .slice ta tent.length tk, .slice ua undos.length uk, .slice na now.length nk] 26)).alloc (.cells #[.int .i64 ti, .int .i64 ts, .int .i64 tq, .slice xa acts.length xk] 44) = W at *
  refine (hsz W (hrb W b0)).mono ?_
  rintro e w1 ⟨r, rfl, hr, hb⟩
  replace A0 := A0.below hb
  replace A1 := A1.below hb
  replace b0 := b0.trans (hb.mono b0.size)
  clear hb
  clear hsz
  by_cases hneg : r < 0
  · go_wp2
    go_ret
    exact ⟨rfl, b0⟩
  have hl : (pn : Int) + r = 1048576 := hr (by omega)
  clear hr
  have p0 := A1.cell 0 _ rfl
  have p1 := A1.cell 1 _ rfl
  have p2 := A1.cell 2 _ rfl
  have p3 := A1.cell 3 _ rfl
  go_wp2_with fail
  clear p0 p1 p2 p3
  refine (hszT r w1 (hrbT w1 b0) (by omega) (by omega)).mono ?_
  rintro e X ⟨r', rfl, hr, hb⟩
  replace A0 := A0.below hb
  replace A1 := A1.below hb
  replace b0 := b0.trans (hb.mono b0.size)
  clear hb
  clear hszT
  by_cases hneg' : r' < 0
  · go_wp2
    go_ret
    exact ⟨rfl, b0⟩
  have hl' : ((bn : Nat) : Int) + r' = r := hr (by omega)
  clear hr
  replace hl' : bn ≤ 1048576 := by omega
  replace hl : pn ≤ 1048576 := by omega
  go_wp2_with fail
  clear hneg hneg'
  have bX := b0
  have hA1 := A1.lt
  have c0 := A0.lat 0 _ rfl
  have c1 := A0.lat 1 _ rfl
  have c2 := A0.lat 2 _ rfl
  have c3 := A0.lat 3 _ rfl
  have c4 := A0.lat 4 _ rfl
  have d0 := A1.lat 0 _ rfl
  have d1 := A1.lat 1 _ rfl
  have d2 := A1.lat 2 _ rfl
  have d3 := A1.lat 3 _ rfl
  refine region_vals [some 24, some 25, some 26, some 27, some 28, some 6] (fun vs w' => ∃ (v25 v27 : Value) (das : Option Addr) (dks : Nat) (dones : List TxnQ) (bas : Option Addr) (bks : Nat) (bases : List ItemD) (tas : Option Addr) (tks : Nat) (tents : List TxnQ) (uas : Option Addr) (uks : Nat) (undoss : List USQ) (nas : Option Addr) (nks : Nat) (nows : List ItemD) (g : Nat), vs = [.agg #[.slice da done.length dk, .slice ba base.length bk, .slice ta tent.length tk, .slice ua undos.length uk, .slice na now.length nk], v25, .agg #[.int .i64 ti, .int .i64 ts, .int .i64 tq, .slice xa acts.length xk], v27, .agg #[.int .i64 D, .int .i64 A, .int .i64 V, .slice das dones.length dks, .slice bas bases.length bks, .slice tas tents.length tks, .slice uas undoss.length uks, .slice nas nows.length nks], .pointer (some ⟨g, 0, none⟩)] ∧ X.heap.size ≤ g ∧ Blk w' g 34 #[.int .i64 D, .int .i64 A, .int .i64 V, .slice das dones.length dks, .slice bas bases.length bks, .slice tas tents.length tks, .slice uas undoss.length uks, .slice nas nows.length nks] ∧ RepQ.e (⟨.slice das dones.length dks, dones, .slice bas bases.length bks, bases, .slice tas tents.length tks, tents, .slice uas undoss.length uks, undoss, .slice nas nows.length nks, nows⟩ : RepQ) = E ∧ repK.own w' (⟨.slice das dones.length dks, dones, .slice bas bases.length bks, bases, .slice tas tents.length tks, tents, .slice uas undoss.length uks, undoss, .slice nas nows.length nks, nows⟩ : RepQ) ∧ (∀ k ∈ repK.foot (⟨.slice das dones.length dks, dones, .slice bas bases.length bks, bases, .slice tas tents.length tks, tents, .slice uas undoss.length uks, undoss, .slice nas nows.length nks, nows⟩ : RepQ), X.heap.size ≤ k ∧ k ≠ g) ∧ Below X.heap.size X w') ?_ ?_
  · have hW : Below X.heap.size X X.drew := (Below.refl _ _).drew
    have hnn : Nonempty (Lat X) := ⟨⟨X, Below.refl _ _⟩⟩
    refine text_begin (S := fun w' => ∃ u : Lat X, w' = u.val) (by kernel_rfl) ?_
    refine seg_range [(0, 1), (2, 1)] 5 (by kernel_rfl) (by kernel_rfl) (by kernel_rfl) (by kernel_rfl) (by kernel_rfl) ⟨⟨_, hW⟩, rfl⟩ ?_
    simp only [pickR, List.toList_toArray, List.flatMap_cons, List.flatMap_nil, List.drop_succ_cons, List.drop_zero, List.take_succ_cons, List.take_zero, List.cons_append, List.nil_append, List.append_nil]
    repeat go_big_quiet_step (fail)
    refine wpQuiet_nil ?_
    clear c0 c1 c2 c3 c4 d0 d1 d2 d3
    generalize X.drew = wd at hW ⊢
    refine two_at 1 5 4 (by kernel_rfl) (by kernel_rfl) ?_ ?_
    · skip
      refine op_call 1 (some 25) 11 #[.agg #[.slice da done.length dk, .slice ba base.length bk, .slice ta tent.length tk, .slice ua undos.length uk, .slice na now.length nk]] (by kernel_rfl) (by kernel_rfl) (by kernel_rfl) ?_
      refine (hto _ (hrb _ (bX.trans (hW.mono bX.size))) hl).mono ?_
      rintro e x1 ⟨q1, rfl, e1, o1, n1, g1, hb⟩
      clear n1 g1
      replace hW := hW.trans (hb.mono hW.size)
      clear hb
      refine ⟨_, rfl, ⟨⟨_, hW⟩, rfl⟩, ?_⟩
      simp only [Act.put, List.getElem_toArray, List.getElem_cons_succ, List.getElem_cons_zero, List.setIfInBounds_toArray, List.set_cons_zero, List.set_cons_succ]
      refine two_at 3 5 3 (by kernel_rfl) (by kernel_rfl) ?_ ?_
      · skip
        refine op_call 3 (some 27) 20 #[.agg #[.int .i64 ti, .int .i64 ts, .int .i64 tq, .slice xa acts.length xk]] (by kernel_rfl) (by kernel_rfl) (by kernel_rfl) ?_
        refine (htoT _ (hrbT _ (bX.trans (hW.mono bX.size))) hl').mono ?_
        rintro e x2 ⟨q2x, rfl, e2x, o2x, n2, g2, hb⟩
        clear n2 g2
        replace o1 := repK.own_out (F := []) o1 (Out.of_below hb) (fun _ _ => by simp)
        replace hW := hW.trans (hb.mono hW.size)
        clear hb
        refine ⟨_, rfl, ⟨⟨_, hW⟩, rfl⟩, ?_⟩
        simp only [Act.put, List.getElem_toArray, List.getElem_cons_succ, List.getElem_cons_zero, List.setIfInBounds_toArray, List.set_cons_zero, List.set_cons_succ]
        refine two_at 4 5 2 (by kernel_rfl) (by kernel_rfl) ?_ ?_
        · skip
          refine op_call 4 (some 28) 19 #[.agg #[q1.vd, q1.vb, q1.vt, q1.vu, q1.vn], .agg #[.int .i64 q2x.i, .int .i64 q2x.s, .int .i64 q2x.q, q2x.va]] (by kernel_rfl) (by kernel_rfl) (by kernel_rfl) ?_
          refine (hsp q1 q2x e1 e2x _ o1 o2x (by rw [hqn q1 e1]; exact hl) (by rw [hqm q2x e2x]; exact hl')).mono ?_
          rintro e x3 ⟨qs, rfl, es, os, ns, gs, hb⟩
          have glo : ∀ k ∈ repK.foot qs, X.heap.size ≤ k := fun k hk => by have := gs k hk; have := hW.size; omega
          obtain ⟨vds, dones, vbs, bases, vts, tents, vus, undoss, vns, nows⟩ := qs
          obtain ⟨das, dks, rfl⟩ : ∃ a c, vds = .slice a dones.length c := os.1.shape
          obtain ⟨bas, bks, rfl⟩ : ∃ a c, vbs = .slice a bases.length c := os.2.1.shape
          obtain ⟨tas, tks, rfl⟩ : ∃ a c, vts = .slice a tents.length c := os.2.2.1.shape
          obtain ⟨uas, uks, rfl⟩ : ∃ a c, vus = .slice a undoss.length c := os.2.2.2.1.shape
          obtain ⟨nas, nks, rfl⟩ : ∃ a c, vns = .slice a nows.length c := os.2.2.2.2.shape
          dsimp only
          replace hW := hW.trans (hb.mono hW.size)
          clear hb
          refine ⟨_, rfl, ⟨⟨_, hW⟩, rfl⟩, ?_⟩
          simp only [Act.put, List.getElem_toArray, List.getElem_cons_succ, List.getElem_cons_zero, List.setIfInBounds_toArray, List.set_cons_zero, List.set_cons_succ]
          refine one_at 5 _ 1 (by kernel_rfl) rfl (by kernel_rfl) ?_
          have Bz := Blk.new x3 34 #[.int .i64 0, .int .i64 0, .int .i64 0, .slice none 0 0, .slice none 0 0, .slice none 0 0, .slice none 0 0, .slice none 0 0]
          have hzz : X.heap.size ≤ x3.heap.size := hW.size
          have hba : Below x3.heap.size x3 (x3.alloc (.cells #[.int .i64 0, .int .i64 0, .int .i64 0, .slice none 0 0, .slice none 0 0, .slice none 0 0, .slice none 0 0, .slice none 0 0] 34)) := by go_grown
          have gne : ∀ k ∈ repK.foot (⟨.slice das dones.length dks, dones, .slice bas bases.length bks, bases, .slice tas tents.length tks, tents, .slice uas undoss.length uks, undoss, .slice nas nows.length nks, nows⟩ : RepQ), k ≠ x3.heap.size := fun k hk => by have := repK.own_lt os k hk; omega
          replace os := repK.own_out (F := []) os (Out.of_below hba) (fun _ _ => by simp)
          replace hW := hW.trans (hba.mono hW.size)
          clear hba
          go_wp2
          refine ThenGo.to ⟨⟨⟨_, hW⟩, rfl⟩, ?_⟩
          generalize hGy4 : x3.heap.size = g at *
          clear hGy4
          generalize x3.alloc (.cells #[.int .i64 0, .int .i64 0, .int .i64 0, .slice none 0 0, .slice none 0 0, .slice none 0 0, .slice none 0 0, .slice none 0 0] 34) = y4 at *
          refine one_at 6 _ 0 (by kernel_rfl) rfl (by kernel_rfl) ?_
          have hgW : X.heap.size ≤ g := by omega
          have Rz := Bz.row #[.int .i64 D, .int .i64 A, .int .i64 V, .slice das dones.length dks, .slice bas bases.length bks, .slice tas tents.length tks, .slice uas undoss.length uks, .slice nas nows.length nks]
          have oz := repK.own_out os (out_row _ g #[.int .i64 D, .int .i64 A, .int .i64 V, .slice das dones.length dks, .slice bas bases.length bks, .slice tas tents.length tks, .slice uas undoss.length uks, .slice nas nows.length nks]) (fun k hk => by simp only [List.mem_singleton]; exact gne k hk)
          replace hW := below_row hW hgW #[.int .i64 D, .int .i64 A, .int .i64 V, .slice das dones.length dks, .slice bas bases.length bks, .slice tas tents.length tks, .slice uas undoss.length uks, .slice nas nows.length nks]
          refine st_row (by kernel_rfl) 34 _ _ rfl _ #[.int .i64 D, .int .i64 A, .int .i64 V, .slice das dones.length dks, .slice bas bases.length bks, .slice tas tents.length tks, .slice uas undoss.length uks, .slice nas nows.length nks] rfl rfl 34 _ Bz sz_rr rfl (by simp [Value.oneCell']) ?_
          refine ThenGo.to ⟨⟨⟨_, hW⟩, rfl⟩, ?_⟩
          refine text_end (by kernel_rfl) ?_
          refine ⟨rfl, _, ⟨.agg #[q1.vd, q1.vb, q1.vt, q1.vu, q1.vn], .agg #[.int .i64 q2x.i, .int .i64 q2x.s, .int .i64 q2x.q, q2x.va], das, dks, dones, bas, bks, bases, tas, tks, tents, uas, uks, undoss, nas, nks, nows, g, rfl, hgW, Rz, es, oz, fun k hk => ⟨glo k hk, gne k hk⟩, hW⟩, ?_⟩
          simp only [putAll, Act.put, List.getElem_toArray, List.getElem_cons_succ, List.getElem_cons_zero, List.setIfInBounds_toArray, List.set_cons_zero, List.set_cons_succ]
          try rfl
        · skip
          refine op_one 5 _ rfl ?_
          have Bz := Blk.new x2 34 #[.int .i64 0, .int .i64 0, .int .i64 0, .slice none 0 0, .slice none 0 0, .slice none 0 0, .slice none 0 0, .slice none 0 0]
          have hzz : X.heap.size ≤ x2.heap.size := hW.size
          have hba : Below x2.heap.size x2 (x2.alloc (.cells #[.int .i64 0, .int .i64 0, .int .i64 0, .slice none 0 0, .slice none 0 0, .slice none 0 0, .slice none 0 0, .slice none 0 0] 34)) := by go_grown
          replace o1 := repK.own_out (F := []) o1 (Out.of_below hba) (fun _ _ => by simp)
          replace o2x := txnK.own_out (F := []) o2x (Out.of_below hba) (fun _ _ => by simp)
          replace hW := hW.trans (hba.mono hW.size)
          clear hba
          go_wp2
          refine ThenGo.to ⟨⟨⟨_, hW⟩, rfl⟩, ?_⟩
          generalize hGy5 : x2.heap.size = g at *
          clear hGy5
          generalize x2.alloc (.cells #[.int .i64 0, .int .i64 0, .int .i64 0, .slice none 0 0, .slice none 0 0, .slice none 0 0, .slice none 0 0, .slice none 0 0] 34) = y5 at *
          refine call_at 4 (some 28) 19 #[.agg #[q1.vd, q1.vb, q1.vt, q1.vu, q1.vn], .agg #[.int .i64 q2x.i, .int .i64 q2x.s, .int .i64 q2x.q, q2x.va]] 1 (by kernel_rfl) (by kernel_rfl) (by kernel_rfl) (by kernel_rfl) (by kernel_rfl) ?_
          refine (hsp q1 q2x e1 e2x _ o1 o2x (by rw [hqn q1 e1]; exact hl) (by rw [hqm q2x e2x]; exact hl')).mono ?_
          rintro e x6 ⟨qs, rfl, es, os, ns, gs, hb⟩
          have glo : ∀ k ∈ repK.foot qs, X.heap.size ≤ k := fun k hk => by have := gs k hk; have := hW.size; omega
          have hBzl := Bz.lt
          have gne : ∀ k ∈ repK.foot qs, k ≠ g := fun k hk => by have := gs k hk; omega
          obtain ⟨vds, dones, vbs, bases, vts, tents, vus, undoss, vns, nows⟩ := qs
          obtain ⟨das, dks, rfl⟩ : ∃ a c, vds = .slice a dones.length c := os.1.shape
          obtain ⟨bas, bks, rfl⟩ : ∃ a c, vbs = .slice a bases.length c := os.2.1.shape
          obtain ⟨tas, tks, rfl⟩ : ∃ a c, vts = .slice a tents.length c := os.2.2.1.shape
          obtain ⟨uas, uks, rfl⟩ : ∃ a c, vus = .slice a undoss.length c := os.2.2.2.1.shape
          obtain ⟨nas, nks, rfl⟩ : ∃ a c, vns = .slice a nows.length c := os.2.2.2.2.shape
          dsimp only
          replace Bz := Bz.below hb
          replace hW := hW.trans (hb.mono hW.size)
          clear hb
          refine ⟨_, rfl, ⟨⟨_, hW⟩, rfl⟩, ?_⟩
          simp only [Act.put, List.getElem_toArray, List.getElem_cons_succ, List.getElem_cons_zero, List.setIfInBounds_toArray, List.set_cons_zero, List.set_cons_succ]
          refine one_at 6 _ 0 (by kernel_rfl) rfl (by kernel_rfl) ?_
          have hgW : X.heap.size ≤ g := by omega
          have Rz := Bz.row #[.int .i64 D, .int .i64 A, .int .i64 V, .slice das dones.length dks, .slice bas bases.length bks, .slice tas tents.length tks, .slice uas undoss.length uks, .slice nas nows.length nks]
          have oz := repK.own_out os (out_row _ g #[.int .i64 D, .int .i64 A, .int .i64 V, .slice das dones.length dks, .slice bas bases.length bks, .slice tas tents.length tks, .slice uas undoss.length uks, .slice nas nows.length nks]) (fun k hk => by simp only [List.mem_singleton]; exact gne k hk)
          replace hW := below_row hW hgW #[.int .i64 D, .int .i64 A, .int .i64 V, .slice das dones.length dks, .slice bas bases.length bks, .slice tas tents.length tks, .slice uas undoss.length uks, .slice nas nows.length nks]
          refine st_row (by kernel_rfl) 34 _ _ rfl _ #[.int .i64 D, .int .i64 A, .int .i64 V, .slice das dones.length dks, .slice bas bases.length bks, .slice tas tents.length tks, .slice uas undoss.length uks, .slice nas nows.length nks] rfl rfl 34 _ Bz sz_rr rfl (by simp [Value.oneCell']) ?_
          refine ThenGo.to ⟨⟨⟨_, hW⟩, rfl⟩, ?_⟩
          refine text_end (by kernel_rfl) ?_
          refine ⟨rfl, _, ⟨.agg #[q1.vd, q1.vb, q1.vt, q1.vu, q1.vn], .agg #[.int .i64 q2x.i, .int .i64 q2x.s, .int .i64 q2x.q, q2x.va], das, dks, dones, bas, bks, bases, tas, tks, tents, uas, uks, undoss, nas, nks, nows, g, rfl, hgW, Rz, es, oz, fun k hk => ⟨glo k hk, gne k hk⟩, hW⟩, ?_⟩
          simp only [putAll, Act.put, List.getElem_toArray, List.getElem_cons_succ, List.getElem_cons_zero, List.setIfInBounds_toArray, List.set_cons_zero, List.set_cons_succ]
          try rfl
      · skip
        refine op_one 5 _ rfl ?_
        have Bz := Blk.new x1 34 #[.int .i64 0, .int .i64 0, .int .i64 0, .slice none 0 0, .slice none 0 0, .slice none 0 0, .slice none 0 0, .slice none 0 0]
        have hzz : X.heap.size ≤ x1.heap.size := hW.size
        have hba : Below x1.heap.size x1 (x1.alloc (.cells #[.int .i64 0, .int .i64 0, .int .i64 0, .slice none 0 0, .slice none 0 0, .slice none 0 0, .slice none 0 0, .slice none 0 0] 34)) := by go_grown
        replace o1 := repK.own_out (F := []) o1 (Out.of_below hba) (fun _ _ => by simp)
        replace hW := hW.trans (hba.mono hW.size)
        clear hba
        go_wp2
        refine ThenGo.to ⟨⟨⟨_, hW⟩, rfl⟩, ?_⟩
        generalize hGy7 : x1.heap.size = g at *
        clear hGy7
        generalize x1.alloc (.cells #[.int .i64 0, .int .i64 0, .int .i64 0, .slice none 0 0, .slice none 0 0, .slice none 0 0, .slice none 0 0, .slice none 0 0] 34) = y7 at *
        refine call_at 3 (some 27) 20 #[.agg #[.int .i64 ti, .int .i64 ts, .int .i64 tq, .slice xa acts.length xk]] 2 (by kernel_rfl) (by kernel_rfl) (by kernel_rfl) (by kernel_rfl) (by kernel_rfl) ?_
        refine (htoT _ (hrbT _ (bX.trans (hW.mono bX.size))) hl').mono ?_
        rintro e x8 ⟨q2x, rfl, e2x, o2x, n2, g2, hb⟩
        clear n2 g2
        replace o1 := repK.own_out (F := []) o1 (Out.of_below hb) (fun _ _ => by simp)
        replace Bz := Bz.below hb
        replace hW := hW.trans (hb.mono hW.size)
        clear hb
        refine ⟨_, rfl, ⟨⟨_, hW⟩, rfl⟩, ?_⟩
        simp only [Act.put, List.getElem_toArray, List.getElem_cons_succ, List.getElem_cons_zero, List.setIfInBounds_toArray, List.set_cons_zero, List.set_cons_succ]
        refine call_at 4 (some 28) 19 #[.agg #[q1.vd, q1.vb, q1.vt, q1.vu, q1.vn], .agg #[.int .i64 q2x.i, .int .i64 q2x.s, .int .i64 q2x.q, q2x.va]] 1 (by kernel_rfl) (by kernel_rfl) (by kernel_rfl) (by kernel_rfl) (by kernel_rfl) ?_
        refine (hsp q1 q2x e1 e2x _ o1 o2x (by rw [hqn q1 e1]; exact hl) (by rw [hqm q2x e2x]; exact hl')).mono ?_
        rintro e x9 ⟨qs, rfl, es, os, ns, gs, hb⟩
        have glo : ∀ k ∈ repK.foot qs, X.heap.size ≤ k := fun k hk => by have := gs k hk; have := hW.size; omega
        have hBzl := Bz.lt
        have gne : ∀ k ∈ repK.foot qs, k ≠ g := fun k hk => by have := gs k hk; omega
        obtain ⟨vds, dones, vbs, bases, vts, tents, vus, undoss, vns, nows⟩ := qs
        obtain ⟨das, dks, rfl⟩ : ∃ a c, vds = .slice a dones.length c := os.1.shape
        obtain ⟨bas, bks, rfl⟩ : ∃ a c, vbs = .slice a bases.length c := os.2.1.shape
        obtain ⟨tas, tks, rfl⟩ : ∃ a c, vts = .slice a tents.length c := os.2.2.1.shape
        obtain ⟨uas, uks, rfl⟩ : ∃ a c, vus = .slice a undoss.length c := os.2.2.2.1.shape
        obtain ⟨nas, nks, rfl⟩ : ∃ a c, vns = .slice a nows.length c := os.2.2.2.2.shape
        dsimp only
        replace Bz := Bz.below hb
        replace hW := hW.trans (hb.mono hW.size)
        clear hb
        refine ⟨_, rfl, ⟨⟨_, hW⟩, rfl⟩, ?_⟩
        simp only [Act.put, List.getElem_toArray, List.getElem_cons_succ, List.getElem_cons_zero, List.setIfInBounds_toArray, List.set_cons_zero, List.set_cons_succ]
        refine one_at 6 _ 0 (by kernel_rfl) rfl (by kernel_rfl) ?_
        have hgW : X.heap.size ≤ g := by omega
        have Rz := Bz.row #[.int .i64 D, .int .i64 A, .int .i64 V, .slice das dones.length dks, .slice bas bases.length bks, .slice tas tents.length tks, .slice uas undoss.length uks, .slice nas nows.length nks]
        have oz := repK.own_out os (out_row _ g #[.int .i64 D, .int .i64 A, .int .i64 V, .slice das dones.length dks, .slice bas bases.length bks, .slice tas tents.length tks, .slice uas undoss.length uks, .slice nas nows.length nks]) (fun k hk => by simp only [List.mem_singleton]; exact gne k hk)
        replace hW := below_row hW hgW #[.int .i64 D, .int .i64 A, .int .i64 V, .slice das dones.length dks, .slice bas bases.length bks, .slice tas tents.length tks, .slice uas undoss.length uks, .slice nas nows.length nks]
        refine st_row (by kernel_rfl) 34 _ _ rfl _ #[.int .i64 D, .int .i64 A, .int .i64 V, .slice das dones.length dks, .slice bas bases.length bks, .slice tas tents.length tks, .slice uas undoss.length uks, .slice nas nows.length nks] rfl rfl 34 _ Bz sz_rr rfl (by simp [Value.oneCell']) ?_
        refine ThenGo.to ⟨⟨⟨_, hW⟩, rfl⟩, ?_⟩
        refine text_end (by kernel_rfl) ?_
        refine ⟨rfl, _, ⟨.agg #[q1.vd, q1.vb, q1.vt, q1.vu, q1.vn], .agg #[.int .i64 q2x.i, .int .i64 q2x.s, .int .i64 q2x.q, q2x.va], das, dks, dones, bas, bks, bases, tas, tks, tents, uas, uks, undoss, nas, nks, nows, g, rfl, hgW, Rz, es, oz, fun k hk => ⟨glo k hk, gne k hk⟩, hW⟩, ?_⟩
        simp only [putAll, Act.put, List.getElem_toArray, List.getElem_cons_succ, List.getElem_cons_zero, List.setIfInBounds_toArray, List.set_cons_zero, List.set_cons_succ]
        try rfl
    · skip
      refine op_one 5 _ rfl ?_
      have Bz := Blk.new wd 34 #[.int .i64 0, .int .i64 0, .int .i64 0, .slice none 0 0, .slice none 0 0, .slice none 0 0, .slice none 0 0, .slice none 0 0]
      have hzz : X.heap.size ≤ wd.heap.size := hW.size
      have hba : Below wd.heap.size wd (wd.alloc (.cells #[.int .i64 0, .int .i64 0, .int .i64 0, .slice none 0 0, .slice none 0 0, .slice none 0 0, .slice none 0 0, .slice none 0 0] 34)) := by go_grown
      replace hW := hW.trans (hba.mono hW.size)
      clear hba
      go_wp2
      refine ThenGo.to ⟨⟨⟨_, hW⟩, rfl⟩, ?_⟩
      generalize hGy10 : wd.heap.size = g at *
      clear hGy10
      generalize wd.alloc (.cells #[.int .i64 0, .int .i64 0, .int .i64 0, .slice none 0 0, .slice none 0 0, .slice none 0 0, .slice none 0 0, .slice none 0 0] 34) = y10 at *
      refine call_at 1 (some 25) 11 #[.agg #[.slice da done.length dk, .slice ba base.length bk, .slice ta tent.length tk, .slice ua undos.length uk, .slice na now.length nk]] 3 (by kernel_rfl) (by kernel_rfl) (by kernel_rfl) (by kernel_rfl) (by kernel_rfl) ?_
      refine (hto _ (hrb _ (bX.trans (hW.mono bX.size))) hl).mono ?_
      rintro e x11 ⟨q1, rfl, e1, o1, n1, g1, hb⟩
      clear n1 g1
      replace Bz := Bz.below hb
      replace hW := hW.trans (hb.mono hW.size)
      clear hb
      refine ⟨_, rfl, ⟨⟨_, hW⟩, rfl⟩, ?_⟩
      simp only [Act.put, List.getElem_toArray, List.getElem_cons_succ, List.getElem_cons_zero, List.setIfInBounds_toArray, List.set_cons_zero, List.set_cons_succ]
      refine call_at 3 (some 27) 20 #[.agg #[.int .i64 ti, .int .i64 ts, .int .i64 tq, .slice xa acts.length xk]] 2 (by kernel_rfl) (by kernel_rfl) (by kernel_rfl) (by kernel_rfl) (by kernel_rfl) ?_
      refine (htoT _ (hrbT _ (bX.trans (hW.mono bX.size))) hl').mono ?_
      rintro e x12 ⟨q2x, rfl, e2x, o2x, n2, g2, hb⟩
      clear n2 g2
      replace o1 := repK.own_out (F := []) o1 (Out.of_below hb) (fun _ _ => by simp)
      replace Bz := Bz.below hb
      replace hW := hW.trans (hb.mono hW.size)
      clear hb
      refine ⟨_, rfl, ⟨⟨_, hW⟩, rfl⟩, ?_⟩
      simp only [Act.put, List.getElem_toArray, List.getElem_cons_succ, List.getElem_cons_zero, List.setIfInBounds_toArray, List.set_cons_zero, List.set_cons_succ]
      refine call_at 4 (some 28) 19 #[.agg #[q1.vd, q1.vb, q1.vt, q1.vu, q1.vn], .agg #[.int .i64 q2x.i, .int .i64 q2x.s, .int .i64 q2x.q, q2x.va]] 1 (by kernel_rfl) (by kernel_rfl) (by kernel_rfl) (by kernel_rfl) (by kernel_rfl) ?_
      refine (hsp q1 q2x e1 e2x _ o1 o2x (by rw [hqn q1 e1]; exact hl) (by rw [hqm q2x e2x]; exact hl')).mono ?_
      rintro e x13 ⟨qs, rfl, es, os, ns, gs, hb⟩
      have glo : ∀ k ∈ repK.foot qs, X.heap.size ≤ k := fun k hk => by have := gs k hk; have := hW.size; omega
      have hBzl := Bz.lt
      have gne : ∀ k ∈ repK.foot qs, k ≠ g := fun k hk => by have := gs k hk; omega
      obtain ⟨vds, dones, vbs, bases, vts, tents, vus, undoss, vns, nows⟩ := qs
      obtain ⟨das, dks, rfl⟩ : ∃ a c, vds = .slice a dones.length c := os.1.shape
      obtain ⟨bas, bks, rfl⟩ : ∃ a c, vbs = .slice a bases.length c := os.2.1.shape
      obtain ⟨tas, tks, rfl⟩ : ∃ a c, vts = .slice a tents.length c := os.2.2.1.shape
      obtain ⟨uas, uks, rfl⟩ : ∃ a c, vus = .slice a undoss.length c := os.2.2.2.1.shape
      obtain ⟨nas, nks, rfl⟩ : ∃ a c, vns = .slice a nows.length c := os.2.2.2.2.shape
      dsimp only
      replace Bz := Bz.below hb
      replace hW := hW.trans (hb.mono hW.size)
      clear hb
      refine ⟨_, rfl, ⟨⟨_, hW⟩, rfl⟩, ?_⟩
      simp only [Act.put, List.getElem_toArray, List.getElem_cons_succ, List.getElem_cons_zero, List.setIfInBounds_toArray, List.set_cons_zero, List.set_cons_succ]
      refine one_at 6 _ 0 (by kernel_rfl) rfl (by kernel_rfl) ?_
      have hgW : X.heap.size ≤ g := by omega
      have Rz := Bz.row #[.int .i64 D, .int .i64 A, .int .i64 V, .slice das dones.length dks, .slice bas bases.length bks, .slice tas tents.length tks, .slice uas undoss.length uks, .slice nas nows.length nks]
      have oz := repK.own_out os (out_row _ g #[.int .i64 D, .int .i64 A, .int .i64 V, .slice das dones.length dks, .slice bas bases.length bks, .slice tas tents.length tks, .slice uas undoss.length uks, .slice nas nows.length nks]) (fun k hk => by simp only [List.mem_singleton]; exact gne k hk)
      replace hW := below_row hW hgW #[.int .i64 D, .int .i64 A, .int .i64 V, .slice das dones.length dks, .slice bas bases.length bks, .slice tas tents.length tks, .slice uas undoss.length uks, .slice nas nows.length nks]
      refine st_row (by kernel_rfl) 34 _ _ rfl _ #[.int .i64 D, .int .i64 A, .int .i64 V, .slice das dones.length dks, .slice bas bases.length bks, .slice tas tents.length tks, .slice uas undoss.length uks, .slice nas nows.length nks] rfl rfl 34 _ Bz sz_rr rfl (by simp [Value.oneCell']) ?_
      refine ThenGo.to ⟨⟨⟨_, hW⟩, rfl⟩, ?_⟩
      refine text_end (by kernel_rfl) ?_
      refine ⟨rfl, _, ⟨.agg #[q1.vd, q1.vb, q1.vt, q1.vu, q1.vn], .agg #[.int .i64 q2x.i, .int .i64 q2x.s, .int .i64 q2x.q, q2x.va], das, dks, dones, bas, bks, bases, tas, tks, tents, uas, uks, undoss, nas, nks, nows, g, rfl, hgW, Rz, es, oz, fun k hk => ⟨glo k hk, gne k hk⟩, hW⟩, ?_⟩
      simp only [putAll, Act.put, List.getElem_toArray, List.getElem_cons_succ, List.getElem_cons_zero, List.setIfInBounds_toArray, List.set_cons_zero, List.set_cons_succ]
      try rfl
  rintro vs w5 ⟨v25, v27, das, dks, dones, bas, bks, bases, tas, tks, tents, uas, uks, undoss, nas, nks, nows, gs, rfl, hgs, Ss, es, os, gss, hX5⟩
  simp only [putAll, Act.put, List.setIfInBounds_toArray, List.set_cons_zero, List.set_cons_succ]
  clear c0 c1 c2 c3 c4 d0 d1 d2 d3
  replace A0 := A0.below hX5
  replace A1 := A1.below hX5
  replace b0 := b0.trans (hX5.mono b0.size)
  clear hX5
  have hS0 := Ss.lt
  have S0 := Ss
  clear Ss
  have us : ∀ k ∈ repK.foot (⟨.slice das dones.length dks, dones, .slice bas bases.length bks, bases, .slice tas tents.length tks, tents, .slice uas undoss.length uks, undoss, .slice nas nows.length nks, nows⟩ : RepQ), w.heap.size + 1 < k ∧ k < w5.heap.size ∧ k ≠ gs := fun k hk => ⟨by have := gss k hk; omega, repK.own_lt os k hk, (gss k hk).2⟩
  have hw5 : w.heap.size + 1 < w5.heap.size := A1.lt
  have hgs' : w.heap.size + 1 < gs := by omega
  have hls : RepQ.n (⟨.slice das dones.length dks, dones, .slice bas bases.length bks, bases, .slice tas tents.length tks, tents, .slice uas undoss.length uks, undoss, .slice nas nows.length nks, nows⟩ : RepQ) ≤ 1048576 := hqs _ es
  clear gss bX hsp
  have p0 := A0.cell 0 _ rfl
  have p1 := A0.cell 1 _ rfl
  have p2 := A0.cell 2 _ rfl
  have p3 := A0.cell 3 _ rfl
  have p4 := A0.cell 4 _ rfl
  go_wp2_with fail
  clear p0 p1 p2 p3 p4
  refine (hto w5 (hrb w5 b0) hl).mono ?_
  rintro e w6 ⟨q2, rfl, e2, o2, n2, g2, hb⟩
  have hS5 := S0.lt
  have h56 := hb.size
  have u2 : ∀ k ∈ repK.foot q2, w5.heap.size ≤ k ∧ k < w6.heap.size := fun k hk => ⟨by have := g2 k hk; omega, repK.own_lt o2 k hk⟩
  replace A0 := A0.below hb
  replace A1 := A1.below hb
  replace S0 := S0.below hb
  replace os := repK.own_out (F := []) os (Out.of_below hb) (fun _ _ => by simp)
  replace b0 := b0.trans (hb.mono b0.size)
  clear hb
  clear g2
  have hw6 : gs < w6.heap.size := S0.lt
  have hl2 : RepQ.n q2 ≤ 1048576 := by rw [hqn q2 e2]; exact hl
  have nd2 := o2.1.niceV
  have nt2 := o2.2.2.1.niceV
  have hi2 := fun t ht w hG h hT hl' => him q2 t e2 ht w hG h nd2 nt2 hT hl2 hl'
  obtain ⟨vd2, done2, vb2, base2, vt2, tent2, vu2, undos2, vn2, now2⟩ := q2
  obtain ⟨da2, dk2, rfl⟩ : ∃ a c, vd2 = .slice a done2.length c := o2.1.shape
  obtain ⟨ba2, bk2, rfl⟩ : ∃ a c, vb2 = .slice a base2.length c := o2.2.1.shape
  obtain ⟨ta2, tk2, rfl⟩ : ∃ a c, vt2 = .slice a tent2.length c := o2.2.2.1.shape
  obtain ⟨ua2, uk2, rfl⟩ : ∃ a c, vu2 = .slice a undos2.length c := o2.2.2.2.1.shape
  obtain ⟨na2, nk2, rfl⟩ : ∃ a c, vn2 = .slice a now2.length c := o2.2.2.2.2.shape
  dsimp only at hi2
  clear nd2 nt2
  have X0 := Blk.new w6 32 #[.slice da2 done2.length dk2, .slice ba2 base2.length bk2, .slice ta2 tent2.length tk2, .slice ua2 undos2.length uk2, .slice na2 now2.length nk2]
  have hb : Below w6.heap.size w6 (w6.alloc (.cells #[.slice da2 done2.length dk2, .slice ba2 base2.length bk2, .slice ta2 tent2.length tk2, .slice ua2 undos2.length uk2, .slice na2 now2.length nk2] 32)) := by go_grown
  replace A0 := A0.below hb
  replace A1 := A1.below hb
  replace S0 := S0.below hb
  replace os := repK.own_out (F := []) os (Out.of_below hb) (fun _ _ => by simp)
  replace o2 := repK.own_out (F := []) o2 (Out.of_below hb) (fun _ _ => by simp)
  replace b0 := b0.trans (hb.mono b0.size)
  clear hb
  have p0 := A1.cell 0 _ rfl
  have p1 := A1.cell 1 _ rfl
  have p2 := A1.cell 2 _ rfl
  have p3 := A1.cell 3 _ rfl
  go_wp2_with fail
  clear p0 p1 p2 p3
  generalize w6.alloc (.cells #[.slice da2 done2.length dk2, .slice ba2 base2.length bk2, .slice ta2 tent2.length tk2, .slice ua2 undos2.length uk2, .slice na2 now2.length nk2] 32) = W6 at *
  refine (htoT W6 (hrbT W6 b0) hl').mono ?_
  rintro e w7 ⟨t3, rfl, e3, o3, n3, g3, hb⟩
  have hX6 := X0.lt
  have h67 := hb.size
  have u3 : ∀ k ∈ txnK.foot t3, w6.heap.size < k ∧ k < w7.heap.size := fun k hk => ⟨by have := g3 k hk; omega, txnK.own_lt o3 k hk⟩
  replace A0 := A0.below hb
  replace A1 := A1.below hb
  replace S0 := S0.below hb
  replace X0 := X0.below hb
  replace os := repK.own_out (F := []) os (Out.of_below hb) (fun _ _ => by simp)
  replace o2 := repK.own_out (F := []) o2 (Out.of_below hb) (fun _ _ => by simp)
  replace b0 := b0.trans (hb.mono b0.size)
  clear hb
  clear g3
  have hX7 := X0.lt
  have hl3 : TxnQ.n t3 ≤ 1048576 := by rw [hqm t3 e3]; exact hl'
  have hi3 := fun w hG h hT => hi2 t3 e3 w hG h hT hl3
  obtain ⟨i3, s3, q3, va3, acts3⟩ := t3
  obtain ⟨aa3, ac3, rfl⟩ : ∃ a c, va3 = .slice a acts3.length c := (show actK.At w7 va3 acts3 from txnK.own_rd o3).shape
  dsimp only at hi3
  have X1 := Blk.new w7 49 #[.int .i64 i3, .int .i64 s3, .int .i64 q3, .slice aa3 acts3.length ac3]
  have hb : Below w7.heap.size w7 (w7.alloc (.cells #[.int .i64 i3, .int .i64 s3, .int .i64 q3, .slice aa3 acts3.length ac3] 49)) := by go_grown
  replace A0 := A0.below hb
  replace A1 := A1.below hb
  replace S0 := S0.below hb
  replace X0 := X0.below hb
  replace os := repK.own_out (F := []) os (Out.of_below hb) (fun _ _ => by simp)
  replace o2 := repK.own_out (F := []) o2 (Out.of_below hb) (fun _ _ => by simp)
  replace o3 := txnK.own_out (F := []) o3 (Out.of_below hb) (fun _ _ => by simp)
  replace b0 := b0.trans (hb.mono b0.size)
  clear hb
  have p0 := X0.cell 0 _ rfl
  have p1 := X0.cell 1 _ rfl
  have p2 := X0.cell 2 _ rfl
  have p3 := X0.cell 3 _ rfl
  have p4 := X0.cell 4 _ rfl
  have r0 := X1.cell 0 _ rfl
  have r1 := X1.cell 1 _ rfl
  have r2 := X1.cell 2 _ rfl
  have r3 := X1.cell 3 _ rfl
  go_wp2_with fail
  clear p0 p1 p2 p3 p4
  clear r0 r1 r2 r3
  generalize w7.alloc (.cells #[.int .i64 i3, .int .i64 s3, .int .i64 q3, .slice aa3 acts3.length ac3] 49) = W7 at *
  have hX1 := X1.lt
  refine (hi3 W7 (hG.below b0) (repK.own_rd o2) o3).mono ?_
  rintro e w8 ⟨qi, rfl, ei, oi, ni, gi, hb⟩
  have h78 := hb.size
  have ui : ∀ k ∈ repK.foot qi, w7.heap.size < k ∧ k < w8.heap.size := fun k hk => ⟨by have := gi k hk; omega, repK.own_lt oi k hk⟩
  replace A0 := A0.below hb
  replace A1 := A1.below hb
  replace S0 := S0.below hb
  replace X0 := X0.below hb
  replace X1 := X1.below hb
  replace os := repK.own_out (F := []) os (Out.of_below hb) (fun _ _ => by simp)
  replace o2 := repK.own_out (F := []) o2 (Out.of_below hb) (fun _ _ => by simp)
  replace o3 := txnK.own_out (F := []) o3 (Out.of_below hb) (fun _ _ => by simp)
  replace b0 := b0.trans (hb.mono b0.size)
  clear hb
  clear gi hi2 hi3
  have hX8 := X0.lt
  have hli : RepQ.n qi ≤ 1048576 := hqs qi ei
  obtain ⟨vdi, donei, vbi, basei, vti, tenti, vui, undosi, vni, nowi⟩ := qi
  obtain ⟨dai, dki, rfl⟩ : ∃ a c, vdi = .slice a donei.length c := oi.1.shape
  obtain ⟨bai, bki, rfl⟩ : ∃ a c, vbi = .slice a basei.length c := oi.2.1.shape
  obtain ⟨tai, tki, rfl⟩ : ∃ a c, vti = .slice a tenti.length c := oi.2.2.1.shape
  obtain ⟨uai, uki, rfl⟩ : ∃ a c, vui = .slice a undosi.length c := oi.2.2.2.1.shape
  obtain ⟨nai, nki, rfl⟩ : ∃ a c, vni = .slice a nowi.length c := oi.2.2.2.2.shape
  have Y0 := Blk.new w8 34 #[.int .i64 D, .int .i64 A, .int .i64 V, .slice dai donei.length dki, .slice bai basei.length bki, .slice tai tenti.length tki, .slice uai undosi.length uki, .slice nai nowi.length nki]
  have hb : Below w8.heap.size w8 (w8.alloc (.cells #[.int .i64 D, .int .i64 A, .int .i64 V, .slice dai donei.length dki, .slice bai basei.length bki, .slice tai tenti.length tki, .slice uai undosi.length uki, .slice nai nowi.length nki] 34)) := by go_grown
  replace A0 := A0.below hb
  replace A1 := A1.below hb
  replace S0 := S0.below hb
  replace X0 := X0.below hb
  replace X1 := X1.below hb
  replace os := repK.own_out (F := []) os (Out.of_below hb) (fun _ _ => by simp)
  replace o2 := repK.own_out (F := []) o2 (Out.of_below hb) (fun _ _ => by simp)
  replace oi := repK.own_out (F := []) oi (Out.of_below hb) (fun _ _ => by simp)
  replace o3 := txnK.own_out (F := []) o3 (Out.of_below hb) (fun _ _ => by simp)
  replace b0 := b0.trans (hb.mono b0.size)
  clear hb
  have r0 := S0.cell 0 _ rfl
  have r1 := S0.cell 1 _ rfl
  have r2 := S0.cell 2 _ rfl
  have r3 := S0.cell 3 _ rfl
  have r4 := S0.cell 4 _ rfl
  have r5 := S0.cell 5 _ rfl
  have r6 := S0.cell 6 _ rfl
  have r7 := S0.cell 7 _ rfl
  go_wp2_with fail
  clear r0 r1 r2 r3 r4 r5 r6 r7
  generalize w8.alloc (.cells #[.int .i64 D, .int .i64 A, .int .i64 V, .slice dai donei.length dki, .slice bai basei.length bki, .slice tai tenti.length tki, .slice uai undosi.length uki, .slice nai nowi.length nki] 34) = W8 at *
  refine (eqRR_k D A V (⟨.slice dai donei.length dki, donei, .slice bai basei.length bki, basei, .slice tai tenti.length tki, tenti, .slice uai undosi.length uki, undosi, .slice nai nowi.length nki, nowi⟩ : RepQ) (⟨.slice das dones.length dks, dones, .slice bas bases.length bks, bases, .slice tas tents.length tks, tents, .slice uas undoss.length uks, undoss, .slice nas nows.length nks, nows⟩ : RepQ) _ (repK.own_rd oi) (repK.own_rd os) (ei.trans es.symm) hli).mono ?_
  rintro e w9 ⟨rfl, hb⟩
  replace A0 := A0.below hb
  replace A1 := A1.below hb
  replace S0 := S0.below hb
  replace X0 := X0.below hb
  replace X1 := X1.below hb
  replace Y0 := Y0.below hb
  replace os := repK.own_out (F := []) os (Out.of_below hb) (fun _ _ => by simp)
  replace o2 := repK.own_out (F := []) o2 (Out.of_below hb) (fun _ _ => by simp)
  replace oi := repK.own_out (F := []) oi (Out.of_below hb) (fun _ _ => by simp)
  replace o3 := txnK.own_out (F := []) o3 (Out.of_below hb) (fun _ _ => by simp)
  replace b0 := b0.trans (hb.mono b0.size)
  clear hb
  go_wp2_with fail
  have hW : Below w9.heap.size w9 w9.drew := (Below.refl _ _).drew
  have hnn : Nonempty (Lat w9) := ⟨⟨w9, Below.refl _ _⟩⟩
  have k0 := A0.lat 0 _ rfl
  have k1 := A0.lat 1 _ rfl
  have k2 := A0.lat 2 _ rfl
  have k3 := A0.lat 3 _ rfl
  have k4 := A0.lat 4 _ rfl
  have l0 := X0.lat 0 _ rfl
  have l1 := X0.lat 1 _ rfl
  have l2 := X0.lat 2 _ rfl
  have l3 := X0.lat 3 _ rfl
  have l4 := X0.lat 4 _ rfl
  refine text_begin (S := fun w' => ∃ u : Lat w9, w' = u.val) (by kernel_rfl) ?_
  refine seg_range [(0, 2)] 3 (by kernel_rfl) (by kernel_rfl) (by kernel_rfl) (by kernel_rfl) (by kernel_rfl) ⟨⟨_, hW⟩, rfl⟩ ?_
  simp only [pickR, List.toList_toArray, List.flatMap_cons, List.flatMap_nil, List.drop_succ_cons, List.drop_zero, List.take_succ_cons, List.take_zero, List.cons_append, List.nil_append, List.append_nil]
  repeat go_big_quiet_step (fail)
  refine wpQuiet_nil ?_
  refine call_at 2 (some 42) 11 #[.agg #[.slice da done.length dk, .slice ba base.length bk, .slice ta tent.length tk, .slice ua undos.length uk, .slice na now.length nk]] 2 (by kernel_rfl) (by kernel_rfl) (by kernel_rfl) (by kernel_rfl) (by kernel_rfl) ?_
  refine (hto _ (hrb _ (b0.trans (hW.mono b0.size))) hl).mono ?_
  rintro e wz ⟨q9, rfl, e9, o9, n9, g9, hb9⟩
  replace hW := hW.trans (hb9.mono hW.size)
  clear n9 g9
  clear hb9
  refine ⟨_, rfl, ⟨⟨_, hW⟩, rfl⟩, ?_⟩
  simp only [Act.put, List.setIfInBounds_toArray, List.set_cons_zero, List.set_cons_succ]
  refine call_at 3 (some 43) 14 #[.agg #[.slice da2 done2.length dk2, .slice ba2 base2.length bk2, .slice ta2 tent2.length tk2, .slice ua2 undos2.length uk2, .slice na2 now2.length nk2], .agg #[q9.vd, q9.vb, q9.vt, q9.vu, q9.vn]] 1 (by kernel_rfl) (by kernel_rfl) (by kernel_rfl) (by kernel_rfl) (by kernel_rfl) ?_
  refine (eqReplica_k (⟨.slice da2 done2.length dk2, done2, .slice ba2 base2.length bk2, base2, .slice ta2 tent2.length tk2, tent2, .slice ua2 undos2.length uk2, undos2, .slice na2 now2.length nk2, now2⟩ : RepQ) q9 _ (repK.rd_below (repK.own_rd o2) hW) (repK.own_rd o9) (e2.trans e9.symm) hl2).mono ?_
  rintro e wz2 ⟨rfl, hb9⟩
  replace hW := hW.trans (hb9.mono hW.size)
  clear hb9
  refine ⟨_, rfl, ⟨⟨_, hW⟩, rfl⟩, ?_⟩
  simp only [Act.put, List.setIfInBounds_toArray, List.set_cons_zero, List.set_cons_succ]
  refine seg_range [(4, 1)] 0 (by kernel_rfl) (by kernel_rfl) (by kernel_rfl) (by kernel_rfl) (by kernel_rfl) ⟨⟨_, hW⟩, rfl⟩ ?_
  simp only [pickR, List.toList_toArray, List.flatMap_cons, List.flatMap_nil, List.drop_succ_cons, List.drop_zero, List.take_succ_cons, List.take_zero, List.cons_append, List.nil_append, List.append_nil]
  repeat go_big_quiet_step (fail)
  refine wpQuiet_nil ?_
  refine text_end (by kernel_rfl) ?_
  clear k0 k1 k2 k3 k4 l0 l1 l2 l3 l4 hnn o9 e9
  replace A0 := A0.below hW
  replace A1 := A1.below hW
  replace S0 := S0.below hW
  replace X0 := X0.below hW
  replace X1 := X1.below hW
  replace Y0 := Y0.below hW
  replace os := repK.own_out (F := []) os (Out.of_below hW) (fun _ _ => by simp)
  replace o2 := repK.own_out (F := []) o2 (Out.of_below hW) (fun _ _ => by simp)
  replace oi := repK.own_out (F := []) oi (Out.of_below hW) (fun _ _ => by simp)
  replace o3 := txnK.own_out (F := []) o3 (Out.of_below hW) (fun _ _ => by simp)
  replace b0 := b0.trans (hW.mono b0.size)
  clear hW
  go_wp2_with fail
  have hW : Below wz2.heap.size wz2 wz2.drew := (Below.refl _ _).drew
  have hnn : Nonempty (Lat wz2) := ⟨⟨wz2, Below.refl _ _⟩⟩
  have k0 := A1.lat 0 _ rfl
  have k1 := A1.lat 1 _ rfl
  have k2 := A1.lat 2 _ rfl
  have k3 := A1.lat 3 _ rfl
  have l0 := X1.lat 0 _ rfl
  have l1 := X1.lat 1 _ rfl
  have l2 := X1.lat 2 _ rfl
  have l3 := X1.lat 3 _ rfl
  refine text_begin (S := fun w' => ∃ u : Lat wz2, w' = u.val) (by kernel_rfl) ?_
  refine seg_range [(0, 2)] 3 (by kernel_rfl) (by kernel_rfl) (by kernel_rfl) (by kernel_rfl) (by kernel_rfl) ⟨⟨_, hW⟩, rfl⟩ ?_
  simp only [pickR, List.toList_toArray, List.flatMap_cons, List.flatMap_nil, List.drop_succ_cons, List.drop_zero, List.take_succ_cons, List.take_zero, List.cons_append, List.nil_append, List.append_nil]
  repeat go_big_quiet_step (fail)
  refine wpQuiet_nil ?_
  refine call_at 2 (some 47) 20 #[.agg #[.int .i64 ti, .int .i64 ts, .int .i64 tq, .slice xa acts.length xk]] 2 (by kernel_rfl) (by kernel_rfl) (by kernel_rfl) (by kernel_rfl) (by kernel_rfl) ?_
  refine (htoT _ (hrbT _ (b0.trans (hW.mono b0.size))) hl').mono ?_
  rintro e wy ⟨q9, rfl, e9, o9, n9, g9, hb9⟩
  replace hW := hW.trans (hb9.mono hW.size)
  clear n9 g9
  clear hb9
  refine ⟨_, rfl, ⟨⟨_, hW⟩, rfl⟩, ?_⟩
  simp only [Act.put, List.setIfInBounds_toArray, List.set_cons_zero, List.set_cons_succ]
  refine call_at 3 (some 48) 22 #[.agg #[.int .i64 i3, .int .i64 s3, .int .i64 q3, .slice aa3 acts3.length ac3], .agg #[.int .i64 q9.i, .int .i64 q9.s, .int .i64 q9.q, q9.va]] 1 (by kernel_rfl) (by kernel_rfl) (by kernel_rfl) (by kernel_rfl) (by kernel_rfl) ?_
  refine (eqTxn_k ⟨i3, s3, q3, .slice aa3 acts3.length ac3, acts3⟩ q9 _ (txnK.rd_below (txnK.own_rd o3) hW) (txnK.own_rd o9) (e3.trans e9.symm) hl3).mono ?_
  rintro e wy ⟨rfl, hb9⟩
  replace hW := hW.trans (hb9.mono hW.size)
  clear hb9
  refine ⟨_, rfl, ⟨⟨_, hW⟩, rfl⟩, ?_⟩
  simp only [Act.put, List.setIfInBounds_toArray, List.set_cons_zero, List.set_cons_succ]
  refine seg_range [(4, 1)] 0 (by kernel_rfl) (by kernel_rfl) (by kernel_rfl) (by kernel_rfl) (by kernel_rfl) ⟨⟨_, hW⟩, rfl⟩ ?_
  simp only [pickR, List.toList_toArray, List.flatMap_cons, List.flatMap_nil, List.drop_succ_cons, List.drop_zero, List.take_succ_cons, List.take_zero, List.cons_append, List.nil_append, List.append_nil]
  repeat go_big_quiet_step (fail)
  refine wpQuiet_nil ?_
  refine text_end (by kernel_rfl) ?_
  clear k0 k1 k2 k3 l0 l1 l2 l3 hnn o9 e9
  replace A0 := A0.below hW
  replace A1 := A1.below hW
  replace S0 := S0.below hW
  replace X0 := X0.below hW
  replace X1 := X1.below hW
  replace Y0 := Y0.below hW
  replace os := repK.own_out (F := []) os (Out.of_below hW) (fun _ _ => by simp)
  replace o2 := repK.own_out (F := []) o2 (Out.of_below hW) (fun _ _ => by simp)
  replace oi := repK.own_out (F := []) oi (Out.of_below hW) (fun _ _ => by simp)
  replace o3 := txnK.own_out (F := []) o3 (Out.of_below hW) (fun _ _ => by simp)
  replace b0 := b0.trans (hW.mono b0.size)
  clear hW
  have p0 := X0.cell 0 _ rfl
  have p1 := X0.cell 1 _ rfl
  have p2 := X0.cell 2 _ rfl
  have p3 := X0.cell 3 _ rfl
  have p4 := X0.cell 4 _ rfl
  go_wp2_with fail
  clear p0 p1 p2 p3 p4
  have hm2 := nmRep_le9 (⟨.slice da2 done2.length dk2, done2, .slice ba2 base2.length bk2, base2, .slice ta2 tent2.length tk2, tent2, .slice ua2 undos2.length uk2, undos2, .slice na2 now2.length nk2, now2⟩ : RepQ)
  refine (markReplica_k (⟨.slice da2 done2.length dk2, done2, .slice ba2 base2.length bk2, base2, .slice ta2 tent2.length tk2, tent2, .slice ua2 undos2.length uk2, undos2, .slice na2 now2.length nk2, now2⟩ : RepQ) 1 _ o2 n2 hl2 (by omega) (by omega)).mono ?_
  rintro e w13 ⟨rfl, _, hU⟩
  have hNU : ∀ k, k ∈ repK.foot (⟨.slice da2 done2.length dk2, done2, .slice ba2 base2.length bk2, base2, .slice ta2 tent2.length tk2, tent2, .slice ua2 undos2.length uk2, undos2, .slice na2 now2.length nk2, now2⟩ : RepQ) → w5.heap.size ≤ k ∧ k < w6.heap.size := u2
  replace A0 := A0.outs9 hU (fun hk => by have := hNU _ hk; omega)
  replace A1 := A1.outs9 hU (fun hk => by have := hNU _ hk; omega)
  replace S0 := S0.outs9 hU (fun hk => by have := hNU _ hk; omega)
  replace X0 := X0.outs9 hU (fun hk => by have := hNU _ hk; omega)
  replace X1 := X1.outs9 hU (fun hk => by have := hNU _ hk; omega)
  replace Y0 := Y0.outs9 hU (fun hk => by have := hNU _ hk; omega)
  replace os := repK.own_out os hU (fun k hk hk' => by have := hNU _ hk'; have := us k hk; omega)
  replace oi := repK.own_out oi hU (fun k hk hk' => by have := hNU _ hk'; have := ui k hk; omega)
  replace o3 := txnK.own_out o3 hU (fun k hk hk' => by have := hNU _ hk'; have := u3 k hk; omega)
  replace b0 := Out.keep b0 hU b0.size (fun k hk => by have := hNU _ hk; omega)
  clear hNU hU
  clear o2
  generalize hM2 : (nmRep (⟨.slice da2 done2.length dk2, done2, .slice ba2 base2.length bk2, base2, .slice ta2 tent2.length tk2, tent2, .slice ua2 undos2.length uk2, undos2, .slice na2 now2.length nk2, now2⟩ : RepQ) : Int) = M2 at *
  have hm2' : 0 ≤ M2 ∧ M2 ≤ 4194304 := by omega
  clear hm2 hM2
  have p0 := X1.cell 0 _ rfl
  have p1 := X1.cell 1 _ rfl
  have p2 := X1.cell 2 _ rfl
  have p3 := X1.cell 3 _ rfl
  have hm3 : acts3.length ≤ 1048576 := hl3
  go_wp2_with fail
  clear p0 p1 p2 p3
  refine (markTxn1_k (⟨i3, s3, q3, .slice aa3 acts3.length ac3, acts3⟩ : TxnQ) (1 + M2) w13 o3 hl3 (by omega) (by omega)).mono ?_
  rintro e w14 ⟨rfl, hU⟩
  have hNU : ∀ k, k ∈ txnK.foot (⟨i3, s3, q3, .slice aa3 acts3.length ac3, acts3⟩ : TxnQ) → w6.heap.size < k ∧ k < w7.heap.size := u3
  replace A0 := A0.outs9 hU (fun hk => by have := hNU _ hk; omega)
  replace A1 := A1.outs9 hU (fun hk => by have := hNU _ hk; omega)
  replace S0 := S0.outs9 hU (fun hk => by have := hNU _ hk; omega)
  replace X0 := X0.outs9 hU (fun hk => by have := hNU _ hk; omega)
  replace X1 := X1.outs9 hU (fun hk => by have := hNU _ hk; omega)
  replace Y0 := Y0.outs9 hU (fun hk => by have := hNU _ hk; omega)
  replace os := repK.own_out os hU (fun k hk hk' => by have := hNU _ hk'; have := us k hk; omega)
  replace oi := repK.own_out oi hU (fun k hk hk' => by have := hNU _ hk'; have := ui k hk; omega)
  replace b0 := Out.keep b0 hU b0.size (fun k hk => by have := hNU _ hk; omega)
  clear hNU hU
  clear o3
  generalize hM3 : ((acts3.length * 3 : Nat) : Int) = M3 at *
  have hm3' : 0 ≤ M3 ∧ M3 ≤ 4194304 := by omega
  have hpos : ¬ (1 + M2 + M3 < 0) := by omega
  clear hm3 hM3
  have p0 := Y0.cell 0 _ rfl
  have p1 := Y0.cell 1 _ rfl
  have p2 := Y0.cell 2 _ rfl
  have p3 := Y0.cell 3 _ rfl
  have p4 := Y0.cell 4 _ rfl
  have p5 := Y0.cell 5 _ rfl
  have p6 := Y0.cell 6 _ rfl
  have p7 := Y0.cell 7 _ rfl
  have r0 := S0.cell 0 _ rfl
  have r1 := S0.cell 1 _ rfl
  have r2 := S0.cell 2 _ rfl
  have r3 := S0.cell 3 _ rfl
  have r4 := S0.cell 4 _ rfl
  have r5 := S0.cell 5 _ rfl
  have r6 := S0.cell 6 _ rfl
  have r7 := S0.cell 7 _ rfl
  go_wp2_with fail
  clear p0 p1 p2 p3 p4 p5 p6 p7
  clear r0 r1 r2 r3 r4 r5 r6 r7
  refine (eqRR_k D A V (⟨.slice dai donei.length dki, donei, .slice bai basei.length bki, basei, .slice tai tenti.length tki, tenti, .slice uai undosi.length uki, undosi, .slice nai nowi.length nki, nowi⟩ : RepQ) (⟨.slice das dones.length dks, dones, .slice bas bases.length bks, bases, .slice tas tents.length tks, tents, .slice uas undoss.length uks, undoss, .slice nas nows.length nks, nows⟩ : RepQ) _ (repK.own_rd oi) (repK.own_rd os) (ei.trans es.symm) hli).mono ?_
  rintro e w15 ⟨rfl, hb⟩
  replace A0 := A0.below hb
  replace A1 := A1.below hb
  replace S0 := S0.below hb
  replace X0 := X0.below hb
  replace X1 := X1.below hb
  replace Y0 := Y0.below hb
  replace os := repK.own_out (F := []) os (Out.of_below hb) (fun _ _ => by simp)
  replace oi := repK.own_out (F := []) oi (Out.of_below hb) (fun _ _ => by simp)
  replace b0 := b0.trans (hb.mono b0.size)
  clear hb
  have p0 := Y0.cell 0 _ rfl
  have p1 := Y0.cell 1 _ rfl
  have p2 := Y0.cell 2 _ rfl
  have p3 := Y0.cell 3 _ rfl
  have p4 := Y0.cell 4 _ rfl
  have p5 := Y0.cell 5 _ rfl
  have p6 := Y0.cell 6 _ rfl
  have p7 := Y0.cell 7 _ rfl
  go_wp2_with fail
  clear p0 p1 p2 p3 p4 p5 p6 p7
  have hmi := nmRep_le9 (⟨.slice dai donei.length dki, donei, .slice bai basei.length bki, basei, .slice tai tenti.length tki, tenti, .slice uai undosi.length uki, undosi, .slice nai nowi.length nki, nowi⟩ : RepQ)
  refine (markRR_k D A V (⟨.slice dai donei.length dki, donei, .slice bai basei.length bki, basei, .slice tai tenti.length tki, tenti, .slice uai undosi.length uki, undosi, .slice nai nowi.length nki, nowi⟩ : RepQ) 1 w15 oi ni hli (by omega) (by omega)).mono ?_
  rintro e w16 ⟨rfl, om, hU⟩
  have hNU : ∀ k, k ∈ repK.foot (⟨.slice dai donei.length dki, donei, .slice bai basei.length bki, basei, .slice tai tenti.length tki, tenti, .slice uai undosi.length uki, undosi, .slice nai nowi.length nki, nowi⟩ : RepQ) → w7.heap.size < k ∧ k < w8.heap.size := ui
  replace A0 := A0.outs9 hU (fun hk => by have := hNU _ hk; omega)
  replace A1 := A1.outs9 hU (fun hk => by have := hNU _ hk; omega)
  replace S0 := S0.outs9 hU (fun hk => by have := hNU _ hk; omega)
  replace X0 := X0.outs9 hU (fun hk => by have := hNU _ hk; omega)
  replace X1 := X1.outs9 hU (fun hk => by have := hNU _ hk; omega)
  replace Y0 := Y0.outs9 hU (fun hk => by have := hNU _ hk; omega)
  replace os := repK.own_out os hU (fun k hk hk' => by have := hNU _ hk'; have := us k hk; omega)
  replace b0 := Out.keep b0 hU b0.size (fun k hk => by have := hNU _ hk; omega)
  clear hNU hU
  clear oi
  have rm := repK.own_rd om
  clear om
  have hmm : Hid (∀ w', Below w16.heap.size w16 w' → repK.rd w' (mkRep 1 (⟨.slice dai donei.length dki, donei, .slice bai basei.length bki, basei, .slice tai tenti.length tki, tenti, .slice uai undosi.length uki, undosi, .slice nai nowi.length nki, nowi⟩ : RepQ))) := fun w' hb => repK.rd_below rm hb
  have hbq : Below w16.heap.size w16 w16 := Below.refl _ _
  have hhe := fun w h => heldRR_k D A V (⟨.slice dai donei.length dki, donei, .slice bai basei.length bki, basei, .slice tai tenti.length tki, tenti, .slice uai undosi.length uki, undosi, .slice nai nowi.length nki, nowi⟩ : RepQ) 1 w h hli (by omega) (by omega)
  generalize hMi : (nmRep (⟨.slice dai donei.length dki, donei, .slice bai basei.length bki, basei, .slice tai tenti.length tki, tenti, .slice uai undosi.length uki, undosi, .slice nai nowi.length nki, nowi⟩ : RepQ) : Int) = Mi at *
  have hmi' : 0 ≤ Mi ∧ Mi ≤ 4194304 := by omega
  have hpi : ¬ (1 + Mi < 0) := by omega
  have hne : ((1 + Mi) != (1 + Mi)) = false := by simp
  clear hmi hMi rm
  have p0 := Y0.cell 0 _ rfl
  have p1 := Y0.cell 1 _ rfl
  have p2 := Y0.cell 2 _ rfl
  have p3 := Y0.cell 3 _ rfl
  have p4 := Y0.cell 4 _ rfl
  have p5 := Y0.cell 5 _ rfl
  have p6 := Y0.cell 6 _ rfl
  have p7 := Y0.cell 7 _ rfl
  go_wp2_with fail
  clear p0 p1 p2 p3 p4 p5 p6 p7
  refine (hhe w16 (hmm.out _ hbq)).mono ?_
  rintro e X17 ⟨rfl, hb⟩
  replace hbq := hbq.trans (hb.mono hbq.size)
  replace A0 := A0.below hb
  replace A1 := A1.below hb
  replace S0 := S0.below hb
  replace X0 := X0.below hb
  replace X1 := X1.below hb
  replace Y0 := Y0.below hb
  replace os := repK.own_out (F := []) os (Out.of_below hb) (fun _ _ => by simp)
  replace b0 := b0.trans (hb.mono b0.size)
  clear hb
  go_wp2_with fail
  have bX := b0
  have c0 := A0.lat 0 _ rfl
  have c1 := A0.lat 1 _ rfl
  have c2 := A0.lat 2 _ rfl
  have c3 := A0.lat 3 _ rfl
  have c4 := A0.lat 4 _ rfl
  have d0 := A1.lat 0 _ rfl
  have d1 := A1.lat 1 _ rfl
  have d2 := A1.lat 2 _ rfl
  have d3 := A1.lat 3 _ rfl
  refine region_vals [some 75, some 76, some 77, some 78, some 79, some 13] (fun vs w' => ∃ (v25 v27 : Value) (dah : Option Addr) (dkh : Nat) (doneh : List TxnQ) (bah : Option Addr) (bkh : Nat) (baseh : List ItemD) (tah : Option Addr) (tkh : Nat) (tenth : List TxnQ) (uah : Option Addr) (ukh : Nat) (undosh : List USQ) (nah : Option Addr) (nkh : Nat) (nowh : List ItemD) (g : Nat), vs = [.agg #[.slice da done.length dk, .slice ba base.length bk, .slice ta tent.length tk, .slice ua undos.length uk, .slice na now.length nk], v25, .agg #[.int .i64 ti, .int .i64 ts, .int .i64 tq, .slice xa acts.length xk], v27, .agg #[.int .i64 D, .int .i64 A, .int .i64 V, .slice dah doneh.length dkh, .slice bah baseh.length bkh, .slice tah tenth.length tkh, .slice uah undosh.length ukh, .slice nah nowh.length nkh], .pointer (some ⟨g, 0, none⟩)] ∧ X17.heap.size ≤ g ∧ Blk w' g 34 #[.int .i64 D, .int .i64 A, .int .i64 V, .slice dah doneh.length dkh, .slice bah baseh.length bkh, .slice tah tenth.length tkh, .slice uah undosh.length ukh, .slice nah nowh.length nkh] ∧ RepQ.e (⟨.slice dah doneh.length dkh, doneh, .slice bah baseh.length bkh, baseh, .slice tah tenth.length tkh, tenth, .slice uah undosh.length ukh, undosh, .slice nah nowh.length nkh, nowh⟩ : RepQ) = E ∧ repK.own w' (⟨.slice dah doneh.length dkh, doneh, .slice bah baseh.length bkh, baseh, .slice tah tenth.length tkh, tenth, .slice uah undosh.length ukh, undosh, .slice nah nowh.length nkh, nowh⟩ : RepQ) ∧ (∀ k ∈ repK.foot (⟨.slice dah doneh.length dkh, doneh, .slice bah baseh.length bkh, baseh, .slice tah tenth.length tkh, tenth, .slice uah undosh.length ukh, undosh, .slice nah nowh.length nkh, nowh⟩ : RepQ), X17.heap.size ≤ k ∧ k ≠ g) ∧ Below X17.heap.size X17 w') ?_ ?_
  · have hW : Below X17.heap.size X17 X17.drew := (Below.refl _ _).drew
    have hnn : Nonempty (Lat X17) := ⟨⟨X17, Below.refl _ _⟩⟩
    refine text_begin (S := fun w' => ∃ u : Lat X17, w' = u.val) (by kernel_rfl) ?_
    refine seg_range [(0, 1), (2, 1)] 5 (by kernel_rfl) (by kernel_rfl) (by kernel_rfl) (by kernel_rfl) (by kernel_rfl) ⟨⟨_, hW⟩, rfl⟩ ?_
    simp only [pickR, List.toList_toArray, List.flatMap_cons, List.flatMap_nil, List.drop_succ_cons, List.drop_zero, List.take_succ_cons, List.take_zero, List.cons_append, List.nil_append, List.append_nil]
    repeat go_big_quiet_step (fail)
    refine wpQuiet_nil ?_
    clear c0 c1 c2 c3 c4 d0 d1 d2 d3
    generalize X17.drew = wd at hW ⊢
    refine two_at 1 5 4 (by kernel_rfl) (by kernel_rfl) ?_ ?_
    · skip
      refine op_call 1 (some 76) 11 #[.agg #[.slice da done.length dk, .slice ba base.length bk, .slice ta tent.length tk, .slice ua undos.length uk, .slice na now.length nk]] (by kernel_rfl) (by kernel_rfl) (by kernel_rfl) ?_
      refine (hto _ (hrb _ (bX.trans (hW.mono bX.size))) hl).mono ?_
      rintro e x14 ⟨q1, rfl, e1, o1, n1, g1, hb⟩
      clear n1 g1
      replace hW := hW.trans (hb.mono hW.size)
      clear hb
      refine ⟨_, rfl, ⟨⟨_, hW⟩, rfl⟩, ?_⟩
      simp only [Act.put, List.getElem_toArray, List.getElem_cons_succ, List.getElem_cons_zero, List.setIfInBounds_toArray, List.set_cons_zero, List.set_cons_succ]
      refine two_at 3 5 3 (by kernel_rfl) (by kernel_rfl) ?_ ?_
      · skip
        refine op_call 3 (some 78) 20 #[.agg #[.int .i64 ti, .int .i64 ts, .int .i64 tq, .slice xa acts.length xk]] (by kernel_rfl) (by kernel_rfl) (by kernel_rfl) ?_
        refine (htoT _ (hrbT _ (bX.trans (hW.mono bX.size))) hl').mono ?_
        rintro e x15 ⟨q2x, rfl, e2x, o2x, n2, g2, hb⟩
        clear n2 g2
        replace o1 := repK.own_out (F := []) o1 (Out.of_below hb) (fun _ _ => by simp)
        replace hW := hW.trans (hb.mono hW.size)
        clear hb
        refine ⟨_, rfl, ⟨⟨_, hW⟩, rfl⟩, ?_⟩
        simp only [Act.put, List.getElem_toArray, List.getElem_cons_succ, List.getElem_cons_zero, List.setIfInBounds_toArray, List.set_cons_zero, List.set_cons_succ]
        refine two_at 4 5 2 (by kernel_rfl) (by kernel_rfl) ?_ ?_
        · skip
          refine op_call 4 (some 79) 21 #[.agg #[q1.vd, q1.vb, q1.vt, q1.vu, q1.vn], .agg #[.int .i64 q2x.i, .int .i64 q2x.s, .int .i64 q2x.q, q2x.va]] (by kernel_rfl) (by kernel_rfl) (by kernel_rfl) ?_
          refine (him q1 q2x e1 e2x _ (hG.below (bX.trans (hW.mono bX.size))) (repK.own_rd o1) o1.1.niceV o1.2.2.1.niceV o2x (by rw [hqn q1 e1]; exact hl) (by rw [hqm q2x e2x]; exact hl')).mono ?_
          rintro e x16 ⟨qh, rfl, es, oh, nh, gh, hb⟩
          have glo : ∀ k ∈ repK.foot qh, X17.heap.size ≤ k := fun k hk => by have := gh k hk; have := hW.size; omega
          obtain ⟨vdh, doneh, vbh, baseh, vth, tenth, vuh, undosh, vnh, nowh⟩ := qh
          obtain ⟨dah, dkh, rfl⟩ : ∃ a c, vdh = .slice a doneh.length c := oh.1.shape
          obtain ⟨bah, bkh, rfl⟩ : ∃ a c, vbh = .slice a baseh.length c := oh.2.1.shape
          obtain ⟨tah, tkh, rfl⟩ : ∃ a c, vth = .slice a tenth.length c := oh.2.2.1.shape
          obtain ⟨uah, ukh, rfl⟩ : ∃ a c, vuh = .slice a undosh.length c := oh.2.2.2.1.shape
          obtain ⟨nah, nkh, rfl⟩ : ∃ a c, vnh = .slice a nowh.length c := oh.2.2.2.2.shape
          dsimp only
          replace hW := hW.trans (hb.mono hW.size)
          clear hb
          refine ⟨_, rfl, ⟨⟨_, hW⟩, rfl⟩, ?_⟩
          simp only [Act.put, List.getElem_toArray, List.getElem_cons_succ, List.getElem_cons_zero, List.setIfInBounds_toArray, List.set_cons_zero, List.set_cons_succ]
          refine one_at 5 _ 1 (by kernel_rfl) rfl (by kernel_rfl) ?_
          have Bz := Blk.new x16 34 #[.int .i64 0, .int .i64 0, .int .i64 0, .slice none 0 0, .slice none 0 0, .slice none 0 0, .slice none 0 0, .slice none 0 0]
          have hzz : X17.heap.size ≤ x16.heap.size := hW.size
          have hba : Below x16.heap.size x16 (x16.alloc (.cells #[.int .i64 0, .int .i64 0, .int .i64 0, .slice none 0 0, .slice none 0 0, .slice none 0 0, .slice none 0 0, .slice none 0 0] 34)) := by go_grown
          have gne : ∀ k ∈ repK.foot (⟨.slice dah doneh.length dkh, doneh, .slice bah baseh.length bkh, baseh, .slice tah tenth.length tkh, tenth, .slice uah undosh.length ukh, undosh, .slice nah nowh.length nkh, nowh⟩ : RepQ), k ≠ x16.heap.size := fun k hk => by have := repK.own_lt oh k hk; omega
          replace oh := repK.own_out (F := []) oh (Out.of_below hba) (fun _ _ => by simp)
          replace hW := hW.trans (hba.mono hW.size)
          clear hba
          go_wp2
          refine ThenGo.to ⟨⟨⟨_, hW⟩, rfl⟩, ?_⟩
          generalize hGy17 : x16.heap.size = g at *
          clear hGy17
          generalize x16.alloc (.cells #[.int .i64 0, .int .i64 0, .int .i64 0, .slice none 0 0, .slice none 0 0, .slice none 0 0, .slice none 0 0, .slice none 0 0] 34) = y17 at *
          refine one_at 6 _ 0 (by kernel_rfl) rfl (by kernel_rfl) ?_
          have hgW : X17.heap.size ≤ g := by omega
          have Rz := Bz.row #[.int .i64 D, .int .i64 A, .int .i64 V, .slice dah doneh.length dkh, .slice bah baseh.length bkh, .slice tah tenth.length tkh, .slice uah undosh.length ukh, .slice nah nowh.length nkh]
          have oz := repK.own_out oh (out_row _ g #[.int .i64 D, .int .i64 A, .int .i64 V, .slice dah doneh.length dkh, .slice bah baseh.length bkh, .slice tah tenth.length tkh, .slice uah undosh.length ukh, .slice nah nowh.length nkh]) (fun k hk => by simp only [List.mem_singleton]; exact gne k hk)
          replace hW := below_row hW hgW #[.int .i64 D, .int .i64 A, .int .i64 V, .slice dah doneh.length dkh, .slice bah baseh.length bkh, .slice tah tenth.length tkh, .slice uah undosh.length ukh, .slice nah nowh.length nkh]
          refine st_row (by kernel_rfl) 34 _ _ rfl _ #[.int .i64 D, .int .i64 A, .int .i64 V, .slice dah doneh.length dkh, .slice bah baseh.length bkh, .slice tah tenth.length tkh, .slice uah undosh.length ukh, .slice nah nowh.length nkh] rfl rfl 34 _ Bz sz_rr rfl (by simp [Value.oneCell']) ?_
          refine ThenGo.to ⟨⟨⟨_, hW⟩, rfl⟩, ?_⟩
          refine text_end (by kernel_rfl) ?_
          refine ⟨rfl, _, ⟨.agg #[q1.vd, q1.vb, q1.vt, q1.vu, q1.vn], .agg #[.int .i64 q2x.i, .int .i64 q2x.s, .int .i64 q2x.q, q2x.va], dah, dkh, doneh, bah, bkh, baseh, tah, tkh, tenth, uah, ukh, undosh, nah, nkh, nowh, g, rfl, hgW, Rz, es, oz, fun k hk => ⟨glo k hk, gne k hk⟩, hW⟩, ?_⟩
          simp only [putAll, Act.put, List.getElem_toArray, List.getElem_cons_succ, List.getElem_cons_zero, List.setIfInBounds_toArray, List.set_cons_zero, List.set_cons_succ]
          try rfl
        · skip
          refine op_one 5 _ rfl ?_
          have Bz := Blk.new x15 34 #[.int .i64 0, .int .i64 0, .int .i64 0, .slice none 0 0, .slice none 0 0, .slice none 0 0, .slice none 0 0, .slice none 0 0]
          have hzz : X17.heap.size ≤ x15.heap.size := hW.size
          have hba : Below x15.heap.size x15 (x15.alloc (.cells #[.int .i64 0, .int .i64 0, .int .i64 0, .slice none 0 0, .slice none 0 0, .slice none 0 0, .slice none 0 0, .slice none 0 0] 34)) := by go_grown
          replace o1 := repK.own_out (F := []) o1 (Out.of_below hba) (fun _ _ => by simp)
          replace o2x := txnK.own_out (F := []) o2x (Out.of_below hba) (fun _ _ => by simp)
          replace hW := hW.trans (hba.mono hW.size)
          clear hba
          go_wp2
          refine ThenGo.to ⟨⟨⟨_, hW⟩, rfl⟩, ?_⟩
          generalize hGy18 : x15.heap.size = g at *
          clear hGy18
          generalize x15.alloc (.cells #[.int .i64 0, .int .i64 0, .int .i64 0, .slice none 0 0, .slice none 0 0, .slice none 0 0, .slice none 0 0, .slice none 0 0] 34) = y18 at *
          refine call_at 4 (some 79) 21 #[.agg #[q1.vd, q1.vb, q1.vt, q1.vu, q1.vn], .agg #[.int .i64 q2x.i, .int .i64 q2x.s, .int .i64 q2x.q, q2x.va]] 1 (by kernel_rfl) (by kernel_rfl) (by kernel_rfl) (by kernel_rfl) (by kernel_rfl) ?_
          refine (him q1 q2x e1 e2x _ (hG.below (bX.trans (hW.mono bX.size))) (repK.own_rd o1) o1.1.niceV o1.2.2.1.niceV o2x (by rw [hqn q1 e1]; exact hl) (by rw [hqm q2x e2x]; exact hl')).mono ?_
          rintro e x19 ⟨qh, rfl, es, oh, nh, gh, hb⟩
          have glo : ∀ k ∈ repK.foot qh, X17.heap.size ≤ k := fun k hk => by have := gh k hk; have := hW.size; omega
          have hBzl := Bz.lt
          have gne : ∀ k ∈ repK.foot qh, k ≠ g := fun k hk => by have := gh k hk; omega
          obtain ⟨vdh, doneh, vbh, baseh, vth, tenth, vuh, undosh, vnh, nowh⟩ := qh
          obtain ⟨dah, dkh, rfl⟩ : ∃ a c, vdh = .slice a doneh.length c := oh.1.shape
          obtain ⟨bah, bkh, rfl⟩ : ∃ a c, vbh = .slice a baseh.length c := oh.2.1.shape
          obtain ⟨tah, tkh, rfl⟩ : ∃ a c, vth = .slice a tenth.length c := oh.2.2.1.shape
          obtain ⟨uah, ukh, rfl⟩ : ∃ a c, vuh = .slice a undosh.length c := oh.2.2.2.1.shape
          obtain ⟨nah, nkh, rfl⟩ : ∃ a c, vnh = .slice a nowh.length c := oh.2.2.2.2.shape
          dsimp only
          replace Bz := Bz.below hb
          replace hW := hW.trans (hb.mono hW.size)
          clear hb
          refine ⟨_, rfl, ⟨⟨_, hW⟩, rfl⟩, ?_⟩
          simp only [Act.put, List.getElem_toArray, List.getElem_cons_succ, List.getElem_cons_zero, List.setIfInBounds_toArray, List.set_cons_zero, List.set_cons_succ]
          refine one_at 6 _ 0 (by kernel_rfl) rfl (by kernel_rfl) ?_
          have hgW : X17.heap.size ≤ g := by omega
          have Rz := Bz.row #[.int .i64 D, .int .i64 A, .int .i64 V, .slice dah doneh.length dkh, .slice bah baseh.length bkh, .slice tah tenth.length tkh, .slice uah undosh.length ukh, .slice nah nowh.length nkh]
          have oz := repK.own_out oh (out_row _ g #[.int .i64 D, .int .i64 A, .int .i64 V, .slice dah doneh.length dkh, .slice bah baseh.length bkh, .slice tah tenth.length tkh, .slice uah undosh.length ukh, .slice nah nowh.length nkh]) (fun k hk => by simp only [List.mem_singleton]; exact gne k hk)
          replace hW := below_row hW hgW #[.int .i64 D, .int .i64 A, .int .i64 V, .slice dah doneh.length dkh, .slice bah baseh.length bkh, .slice tah tenth.length tkh, .slice uah undosh.length ukh, .slice nah nowh.length nkh]
          refine st_row (by kernel_rfl) 34 _ _ rfl _ #[.int .i64 D, .int .i64 A, .int .i64 V, .slice dah doneh.length dkh, .slice bah baseh.length bkh, .slice tah tenth.length tkh, .slice uah undosh.length ukh, .slice nah nowh.length nkh] rfl rfl 34 _ Bz sz_rr rfl (by simp [Value.oneCell']) ?_
          refine ThenGo.to ⟨⟨⟨_, hW⟩, rfl⟩, ?_⟩
          refine text_end (by kernel_rfl) ?_
          refine ⟨rfl, _, ⟨.agg #[q1.vd, q1.vb, q1.vt, q1.vu, q1.vn], .agg #[.int .i64 q2x.i, .int .i64 q2x.s, .int .i64 q2x.q, q2x.va], dah, dkh, doneh, bah, bkh, baseh, tah, tkh, tenth, uah, ukh, undosh, nah, nkh, nowh, g, rfl, hgW, Rz, es, oz, fun k hk => ⟨glo k hk, gne k hk⟩, hW⟩, ?_⟩
          simp only [putAll, Act.put, List.getElem_toArray, List.getElem_cons_succ, List.getElem_cons_zero, List.setIfInBounds_toArray, List.set_cons_zero, List.set_cons_succ]
          try rfl
      · skip
        refine op_one 5 _ rfl ?_
        have Bz := Blk.new x14 34 #[.int .i64 0, .int .i64 0, .int .i64 0, .slice none 0 0, .slice none 0 0, .slice none 0 0, .slice none 0 0, .slice none 0 0]
        have hzz : X17.heap.size ≤ x14.heap.size := hW.size
        have hba : Below x14.heap.size x14 (x14.alloc (.cells #[.int .i64 0, .int .i64 0, .int .i64 0, .slice none 0 0, .slice none 0 0, .slice none 0 0, .slice none 0 0, .slice none 0 0] 34)) := by go_grown
        replace o1 := repK.own_out (F := []) o1 (Out.of_below hba) (fun _ _ => by simp)
        replace hW := hW.trans (hba.mono hW.size)
        clear hba
        go_wp2
        refine ThenGo.to ⟨⟨⟨_, hW⟩, rfl⟩, ?_⟩
        generalize hGy20 : x14.heap.size = g at *
        clear hGy20
        generalize x14.alloc (.cells #[.int .i64 0, .int .i64 0, .int .i64 0, .slice none 0 0, .slice none 0 0, .slice none 0 0, .slice none 0 0, .slice none 0 0] 34) = y20 at *
        refine call_at 3 (some 78) 20 #[.agg #[.int .i64 ti, .int .i64 ts, .int .i64 tq, .slice xa acts.length xk]] 2 (by kernel_rfl) (by kernel_rfl) (by kernel_rfl) (by kernel_rfl) (by kernel_rfl) ?_
        refine (htoT _ (hrbT _ (bX.trans (hW.mono bX.size))) hl').mono ?_
        rintro e x21 ⟨q2x, rfl, e2x, o2x, n2, g2, hb⟩
        clear n2 g2
        replace o1 := repK.own_out (F := []) o1 (Out.of_below hb) (fun _ _ => by simp)
        replace Bz := Bz.below hb
        replace hW := hW.trans (hb.mono hW.size)
        clear hb
        refine ⟨_, rfl, ⟨⟨_, hW⟩, rfl⟩, ?_⟩
        simp only [Act.put, List.getElem_toArray, List.getElem_cons_succ, List.getElem_cons_zero, List.setIfInBounds_toArray, List.set_cons_zero, List.set_cons_succ]
        refine call_at 4 (some 79) 21 #[.agg #[q1.vd, q1.vb, q1.vt, q1.vu, q1.vn], .agg #[.int .i64 q2x.i, .int .i64 q2x.s, .int .i64 q2x.q, q2x.va]] 1 (by kernel_rfl) (by kernel_rfl) (by kernel_rfl) (by kernel_rfl) (by kernel_rfl) ?_
        refine (him q1 q2x e1 e2x _ (hG.below (bX.trans (hW.mono bX.size))) (repK.own_rd o1) o1.1.niceV o1.2.2.1.niceV o2x (by rw [hqn q1 e1]; exact hl) (by rw [hqm q2x e2x]; exact hl')).mono ?_
        rintro e x22 ⟨qh, rfl, es, oh, nh, gh, hb⟩
        have glo : ∀ k ∈ repK.foot qh, X17.heap.size ≤ k := fun k hk => by have := gh k hk; have := hW.size; omega
        have hBzl := Bz.lt
        have gne : ∀ k ∈ repK.foot qh, k ≠ g := fun k hk => by have := gh k hk; omega
        obtain ⟨vdh, doneh, vbh, baseh, vth, tenth, vuh, undosh, vnh, nowh⟩ := qh
        obtain ⟨dah, dkh, rfl⟩ : ∃ a c, vdh = .slice a doneh.length c := oh.1.shape
        obtain ⟨bah, bkh, rfl⟩ : ∃ a c, vbh = .slice a baseh.length c := oh.2.1.shape
        obtain ⟨tah, tkh, rfl⟩ : ∃ a c, vth = .slice a tenth.length c := oh.2.2.1.shape
        obtain ⟨uah, ukh, rfl⟩ : ∃ a c, vuh = .slice a undosh.length c := oh.2.2.2.1.shape
        obtain ⟨nah, nkh, rfl⟩ : ∃ a c, vnh = .slice a nowh.length c := oh.2.2.2.2.shape
        dsimp only
        replace Bz := Bz.below hb
        replace hW := hW.trans (hb.mono hW.size)
        clear hb
        refine ⟨_, rfl, ⟨⟨_, hW⟩, rfl⟩, ?_⟩
        simp only [Act.put, List.getElem_toArray, List.getElem_cons_succ, List.getElem_cons_zero, List.setIfInBounds_toArray, List.set_cons_zero, List.set_cons_succ]
        refine one_at 6 _ 0 (by kernel_rfl) rfl (by kernel_rfl) ?_
        have hgW : X17.heap.size ≤ g := by omega
        have Rz := Bz.row #[.int .i64 D, .int .i64 A, .int .i64 V, .slice dah doneh.length dkh, .slice bah baseh.length bkh, .slice tah tenth.length tkh, .slice uah undosh.length ukh, .slice nah nowh.length nkh]
        have oz := repK.own_out oh (out_row _ g #[.int .i64 D, .int .i64 A, .int .i64 V, .slice dah doneh.length dkh, .slice bah baseh.length bkh, .slice tah tenth.length tkh, .slice uah undosh.length ukh, .slice nah nowh.length nkh]) (fun k hk => by simp only [List.mem_singleton]; exact gne k hk)
        replace hW := below_row hW hgW #[.int .i64 D, .int .i64 A, .int .i64 V, .slice dah doneh.length dkh, .slice bah baseh.length bkh, .slice tah tenth.length tkh, .slice uah undosh.length ukh, .slice nah nowh.length nkh]
        refine st_row (by kernel_rfl) 34 _ _ rfl _ #[.int .i64 D, .int .i64 A, .int .i64 V, .slice dah doneh.length dkh, .slice bah baseh.length bkh, .slice tah tenth.length tkh, .slice uah undosh.length ukh, .slice nah nowh.length nkh] rfl rfl 34 _ Bz sz_rr rfl (by simp [Value.oneCell']) ?_
        refine ThenGo.to ⟨⟨⟨_, hW⟩, rfl⟩, ?_⟩
        refine text_end (by kernel_rfl) ?_
        refine ⟨rfl, _, ⟨.agg #[q1.vd, q1.vb, q1.vt, q1.vu, q1.vn], .agg #[.int .i64 q2x.i, .int .i64 q2x.s, .int .i64 q2x.q, q2x.va], dah, dkh, doneh, bah, bkh, baseh, tah, tkh, tenth, uah, ukh, undosh, nah, nkh, nowh, g, rfl, hgW, Rz, es, oz, fun k hk => ⟨glo k hk, gne k hk⟩, hW⟩, ?_⟩
        simp only [putAll, Act.put, List.getElem_toArray, List.getElem_cons_succ, List.getElem_cons_zero, List.setIfInBounds_toArray, List.set_cons_zero, List.set_cons_succ]
        try rfl
    · skip
      refine op_one 5 _ rfl ?_
      have Bz := Blk.new wd 34 #[.int .i64 0, .int .i64 0, .int .i64 0, .slice none 0 0, .slice none 0 0, .slice none 0 0, .slice none 0 0, .slice none 0 0]
      have hzz : X17.heap.size ≤ wd.heap.size := hW.size
      have hba : Below wd.heap.size wd (wd.alloc (.cells #[.int .i64 0, .int .i64 0, .int .i64 0, .slice none 0 0, .slice none 0 0, .slice none 0 0, .slice none 0 0, .slice none 0 0] 34)) := by go_grown
      replace hW := hW.trans (hba.mono hW.size)
      clear hba
      go_wp2
      refine ThenGo.to ⟨⟨⟨_, hW⟩, rfl⟩, ?_⟩
      generalize hGy23 : wd.heap.size = g at *
      clear hGy23
      generalize wd.alloc (.cells #[.int .i64 0, .int .i64 0, .int .i64 0, .slice none 0 0, .slice none 0 0, .slice none 0 0, .slice none 0 0, .slice none 0 0] 34) = y23 at *
      refine call_at 1 (some 76) 11 #[.agg #[.slice da done.length dk, .slice ba base.length bk, .slice ta tent.length tk, .slice ua undos.length uk, .slice na now.length nk]] 3 (by kernel_rfl) (by kernel_rfl) (by kernel_rfl) (by kernel_rfl) (by kernel_rfl) ?_
      refine (hto _ (hrb _ (bX.trans (hW.mono bX.size))) hl).mono ?_
      rintro e x24 ⟨q1, rfl, e1, o1, n1, g1, hb⟩
      clear n1 g1
      replace Bz := Bz.below hb
      replace hW := hW.trans (hb.mono hW.size)
      clear hb
      refine ⟨_, rfl, ⟨⟨_, hW⟩, rfl⟩, ?_⟩
      simp only [Act.put, List.getElem_toArray, List.getElem_cons_succ, List.getElem_cons_zero, List.setIfInBounds_toArray, List.set_cons_zero, List.set_cons_succ]
      refine call_at 3 (some 78) 20 #[.agg #[.int .i64 ti, .int .i64 ts, .int .i64 tq, .slice xa acts.length xk]] 2 (by kernel_rfl) (by kernel_rfl) (by kernel_rfl) (by kernel_rfl) (by kernel_rfl) ?_
      refine (htoT _ (hrbT _ (bX.trans (hW.mono bX.size))) hl').mono ?_
      rintro e x25 ⟨q2x, rfl, e2x, o2x, n2, g2, hb⟩
      clear n2 g2
      replace o1 := repK.own_out (F := []) o1 (Out.of_below hb) (fun _ _ => by simp)
      replace Bz := Bz.below hb
      replace hW := hW.trans (hb.mono hW.size)
      clear hb
      refine ⟨_, rfl, ⟨⟨_, hW⟩, rfl⟩, ?_⟩
      simp only [Act.put, List.getElem_toArray, List.getElem_cons_succ, List.getElem_cons_zero, List.setIfInBounds_toArray, List.set_cons_zero, List.set_cons_succ]
      refine call_at 4 (some 79) 21 #[.agg #[q1.vd, q1.vb, q1.vt, q1.vu, q1.vn], .agg #[.int .i64 q2x.i, .int .i64 q2x.s, .int .i64 q2x.q, q2x.va]] 1 (by kernel_rfl) (by kernel_rfl) (by kernel_rfl) (by kernel_rfl) (by kernel_rfl) ?_
      refine (him q1 q2x e1 e2x _ (hG.below (bX.trans (hW.mono bX.size))) (repK.own_rd o1) o1.1.niceV o1.2.2.1.niceV o2x (by rw [hqn q1 e1]; exact hl) (by rw [hqm q2x e2x]; exact hl')).mono ?_
      rintro e x26 ⟨qh, rfl, es, oh, nh, gh, hb⟩
      have glo : ∀ k ∈ repK.foot qh, X17.heap.size ≤ k := fun k hk => by have := gh k hk; have := hW.size; omega
      have hBzl := Bz.lt
      have gne : ∀ k ∈ repK.foot qh, k ≠ g := fun k hk => by have := gh k hk; omega
      obtain ⟨vdh, doneh, vbh, baseh, vth, tenth, vuh, undosh, vnh, nowh⟩ := qh
      obtain ⟨dah, dkh, rfl⟩ : ∃ a c, vdh = .slice a doneh.length c := oh.1.shape
      obtain ⟨bah, bkh, rfl⟩ : ∃ a c, vbh = .slice a baseh.length c := oh.2.1.shape
      obtain ⟨tah, tkh, rfl⟩ : ∃ a c, vth = .slice a tenth.length c := oh.2.2.1.shape
      obtain ⟨uah, ukh, rfl⟩ : ∃ a c, vuh = .slice a undosh.length c := oh.2.2.2.1.shape
      obtain ⟨nah, nkh, rfl⟩ : ∃ a c, vnh = .slice a nowh.length c := oh.2.2.2.2.shape
      dsimp only
      replace Bz := Bz.below hb
      replace hW := hW.trans (hb.mono hW.size)
      clear hb
      refine ⟨_, rfl, ⟨⟨_, hW⟩, rfl⟩, ?_⟩
      simp only [Act.put, List.getElem_toArray, List.getElem_cons_succ, List.getElem_cons_zero, List.setIfInBounds_toArray, List.set_cons_zero, List.set_cons_succ]
      refine one_at 6 _ 0 (by kernel_rfl) rfl (by kernel_rfl) ?_
      have hgW : X17.heap.size ≤ g := by omega
      have Rz := Bz.row #[.int .i64 D, .int .i64 A, .int .i64 V, .slice dah doneh.length dkh, .slice bah baseh.length bkh, .slice tah tenth.length tkh, .slice uah undosh.length ukh, .slice nah nowh.length nkh]
      have oz := repK.own_out oh (out_row _ g #[.int .i64 D, .int .i64 A, .int .i64 V, .slice dah doneh.length dkh, .slice bah baseh.length bkh, .slice tah tenth.length tkh, .slice uah undosh.length ukh, .slice nah nowh.length nkh]) (fun k hk => by simp only [List.mem_singleton]; exact gne k hk)
      replace hW := below_row hW hgW #[.int .i64 D, .int .i64 A, .int .i64 V, .slice dah doneh.length dkh, .slice bah baseh.length bkh, .slice tah tenth.length tkh, .slice uah undosh.length ukh, .slice nah nowh.length nkh]
      refine st_row (by kernel_rfl) 34 _ _ rfl _ #[.int .i64 D, .int .i64 A, .int .i64 V, .slice dah doneh.length dkh, .slice bah baseh.length bkh, .slice tah tenth.length tkh, .slice uah undosh.length ukh, .slice nah nowh.length nkh] rfl rfl 34 _ Bz sz_rr rfl (by simp [Value.oneCell']) ?_
      refine ThenGo.to ⟨⟨⟨_, hW⟩, rfl⟩, ?_⟩
      refine text_end (by kernel_rfl) ?_
      refine ⟨rfl, _, ⟨.agg #[q1.vd, q1.vb, q1.vt, q1.vu, q1.vn], .agg #[.int .i64 q2x.i, .int .i64 q2x.s, .int .i64 q2x.q, q2x.va], dah, dkh, doneh, bah, bkh, baseh, tah, tkh, tenth, uah, ukh, undosh, nah, nkh, nowh, g, rfl, hgW, Rz, es, oz, fun k hk => ⟨glo k hk, gne k hk⟩, hW⟩, ?_⟩
      simp only [putAll, Act.put, List.getElem_toArray, List.getElem_cons_succ, List.getElem_cons_zero, List.setIfInBounds_toArray, List.set_cons_zero, List.set_cons_succ]
      try rfl
  rintro vs w20 ⟨v25, v27, dah, dkh, doneh, bah, bkh, baseh, tah, tkh, tenth, uah, ukh, undosh, nah, nkh, nowh, gh, rfl, hgh, Sh, eh, oh, gsh, hX5⟩
  simp only [putAll, Act.put, List.setIfInBounds_toArray, List.set_cons_zero, List.set_cons_succ]
  clear c0 c1 c2 c3 c4 d0 d1 d2 d3
  replace hbq := hbq.trans (hX5.mono hbq.size)
  replace A0 := A0.below hX5
  replace A1 := A1.below hX5
  replace S0 := S0.below hX5
  replace X0 := X0.below hX5
  replace X1 := X1.below hX5
  replace Y0 := Y0.below hX5
  replace os := repK.own_out (F := []) os (Out.of_below hX5) (fun _ _ => by simp)
  replace b0 := b0.trans (hX5.mono b0.size)
  clear hX5
  clear him hto htoT bX
  have hlh : RepQ.n (⟨.slice dah doneh.length dkh, doneh, .slice bah baseh.length bkh, baseh, .slice tah tenth.length tkh, tenth, .slice uah undosh.length ukh, undosh, .slice nah nowh.length nkh, nowh⟩ : RepQ) ≤ 1048576 := hqs _ eh
  have H0 := Sh
  clear Sh
  have p0 := H0.cell 0 _ rfl
  have p1 := H0.cell 1 _ rfl
  have p2 := H0.cell 2 _ rfl
  have p3 := H0.cell 3 _ rfl
  have p4 := H0.cell 4 _ rfl
  have p5 := H0.cell 5 _ rfl
  have p6 := H0.cell 6 _ rfl
  have p7 := H0.cell 7 _ rfl
  have r0 := S0.cell 0 _ rfl
  have r1 := S0.cell 1 _ rfl
  have r2 := S0.cell 2 _ rfl
  have r3 := S0.cell 3 _ rfl
  have r4 := S0.cell 4 _ rfl
  have r5 := S0.cell 5 _ rfl
  have r6 := S0.cell 6 _ rfl
  have r7 := S0.cell 7 _ rfl
  go_wp2_with fail
  clear p0 p1 p2 p3 p4 p5 p6 p7
  clear r0 r1 r2 r3 r4 r5 r6 r7
  refine (eqRR_k D A V (⟨.slice dah doneh.length dkh, doneh, .slice bah baseh.length bkh, baseh, .slice tah tenth.length tkh, tenth, .slice uah undosh.length ukh, undosh, .slice nah nowh.length nkh, nowh⟩ : RepQ) (⟨.slice das dones.length dks, dones, .slice bas bases.length bks, bases, .slice tas tents.length tks, tents, .slice uas undoss.length uks, undoss, .slice nas nows.length nks, nows⟩ : RepQ) _ (repK.own_rd oh) (repK.own_rd os) (eh.trans es.symm) hlh).mono ?_
  rintro e w21 ⟨rfl, hb⟩
  replace hbq := hbq.trans (hb.mono hbq.size)
  replace A0 := A0.below hb
  replace A1 := A1.below hb
  replace S0 := S0.below hb
  replace X0 := X0.below hb
  replace X1 := X1.below hb
  replace Y0 := Y0.below hb
  replace H0 := H0.below hb
  replace os := repK.own_out (F := []) os (Out.of_below hb) (fun _ _ => by simp)
  replace oh := repK.own_out (F := []) oh (Out.of_below hb) (fun _ _ => by simp)
  replace b0 := b0.trans (hb.mono b0.size)
  clear hb
  have p0 := Y0.cell 0 _ rfl
  have p1 := Y0.cell 1 _ rfl
  have p2 := Y0.cell 2 _ rfl
  have p3 := Y0.cell 3 _ rfl
  have p4 := Y0.cell 4 _ rfl
  have p5 := Y0.cell 5 _ rfl
  have p6 := Y0.cell 6 _ rfl
  have p7 := Y0.cell 7 _ rfl
  go_wp2_with fail
  clear p0 p1 p2 p3 p4 p5 p6 p7
  refine (hhe w21 (hmm.out _ hbq)).mono ?_
  rintro e w22 ⟨rfl, hb⟩
  replace b0 := b0.trans (hb.mono b0.size)
  clear hb hhe hmm hbq A0 A1 X1 S0 X0 Y0 H0 os oh
  go_wp2
  go_ret
  exact ⟨rfl, b0⟩

end Go.Proofs.YtfdkcbafpiojkaaGreatDoor

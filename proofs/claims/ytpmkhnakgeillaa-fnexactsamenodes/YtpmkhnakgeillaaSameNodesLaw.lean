/- The law FnExactSameNodes, walked: at any two nodes that can be read it answers true, and it writes into nothing that was there. -/
import Derived.Test.YtpmkhnakgeillaaSn11
namespace Go.Proofs.Ytpmkhnakgeillaa
open Go.RowKit
open Go.BigFrame
set_option linter.unusedVariables false
set_option linter.unusedSimpArgs false

theorem uss_n {ps qs : List USQ} (h : ps.map USQ.e = qs.map USQ.e) : ps.length + nmL USQ.n ps = qs.length + nmL USQ.n qs := by
  have e : ∀ l : List USQ, nmL USQ.n l = nmL List.length (l.map USQ.e) := fun l => by simp only [nmL, List.map_map]; rfl
  have hl : ps.length = qs.length := by simpa using congrArg List.length h
  rw [e, e, h, hl]
theorem txq_n {ps qs : List TxnQ} (h : ps.map TxnQ.e = qs.map TxnQ.e) : ps.length + nmL TxnQ.n ps = qs.length + nmL TxnQ.n qs := by
  have e : ∀ l : List TxnQ, nmL TxnQ.n l = nmL TxnD.n (l.map TxnQ.e) := fun l => by simp only [nmL, List.map_map]; rfl
  have hl : ps.length = qs.length := by simpa using congrArg List.length h
  rw [e, e, h, hl]
theorem rep_n {p q : RepQ} (h : p.e = q.e) : p.n = q.n := by
  simp only [RepQ.e, RepE.mk.injEq] at h
  obtain ⟨h0, h1, h2, h3, h4⟩ := h
  simp only [RepQ.n]
  have a0 := txq_n h0
  have a2 := txq_n h2
  have a3 := uss_n h3
  rw [h1, h4]
  omega

theorem specSN_e (kn sf : Int) (p : RepQ) (kn' sf' : Int) (q : RepQ) (x y : RepE) (hx : p.e = x) (hy : q.e = y) (w : World) (h : repK.rd w p) (h' : repK.rd w q) (hl : p.n ≤ 1048576) (hl' : q.n ≤ 1048576) :
    Calls Try.prog 5 #[.agg #[.int .i64 kn, .int .i64 sf, p.vd, p.vb, p.vt, p.vu, p.vn], .agg #[.int .i64 kn', .int .i64 sf', q.vd, q.vb, q.vt, q.vu, q.vn]] w fun e w' => e = .returned (.bool (sameN kn sf x kn' sf' y)) ∧ Below w.heap.size w w' := by
  subst hx hy
  exact specSameNodes_any kn sf p kn' sf' q w h h' hl hl'
theorem implSN_e (kn sf : Int) (p : RepQ) (kn' sf' : Int) (q : RepQ) (x y : RepE) (hx : p.e = x) (hy : q.e = y) (w : World) (h : repK.rd w p) (h' : repK.rd w q) (hl : p.n ≤ 1048576) (hl' : q.n ≤ 1048576) :
    Calls Try.prog 7 #[.agg #[.int .i64 kn, .int .i64 sf, p.vd, p.vb, p.vt, p.vu, p.vn], .agg #[.int .i64 kn', .int .i64 sf', q.vd, q.vb, q.vt, q.vu, q.vn]] w fun e w' => e = .returned (.bool (sameN kn sf x kn' sf' y)) ∧ Below w.heap.size w w' := by
  subst hx hy
  exact implSameNodes_any kn sf p kn' sf' q w h h' hl hl'

set_option maxRecDepth 100000 in
set_option maxHeartbeats 8000000 in
theorem sameNodesLaw (kn sf : Int) (p : RepQ) (kn' sf' : Int) (q : RepQ) (w : World) (hp : repK.rd w p) (hw : p.wf) (hq : repK.rd w q) (hw' : q.wf) :
    Calls Try.prog 3 #[.agg #[.int .i64 kn, .int .i64 sf, p.vd, p.vb, p.vt, p.vu, p.vn], .agg #[.int .i64 kn', .int .i64 sf', q.vd, q.vb, q.vt, q.vu, q.vn]] w fun e w' => e = .returned (.bool true) ∧ Below w.heap.size w w' := by
  have hsz := fun w h => szNode_k kn sf p 1048576 w h hw (by omega) (by omega)
  have hsz' := fun c w h h0 h1 => szNode_k kn' sf' q c w h hw' h0 h1
  have hto := fun w h hl => toNode_k kn sf p w h hl
  have hto' := fun w h hl => toNode_k kn' sf' q w h hl
  have hsp := fun a b (ha : RepQ.e a = p.e) (hb : RepQ.e b = q.e) w h h' hl hl' => specSN_e kn sf a kn' sf' b _ _ ha hb w h h' hl hl'
  have him := fun a b (ha : RepQ.e a = p.e) (hb : RepQ.e b = q.e) w h h' hl hl' => implSN_e kn sf a kn' sf' b _ _ ha hb w h h' hl hl'
  have hqn : ∀ a : RepQ, a.e = p.e → a.n = p.n := fun q hq => rep_n hq
  have hqn' : ∀ a : RepQ, a.e = q.e → a.n = q.n := fun q hq => rep_n hq
  have heq := fun (a b : RepQ) (ha : a.e = p.e) (hb : b.e = p.e) w h h' hl => eqNode_k kn sf a b w h h' (ha.trans hb.symm) hl
  have heq' := fun (a b : RepQ) (ha : a.e = q.e) (hb : b.e = q.e) w h h' hl => eqNode_k kn' sf' a b w h h' (ha.trans hb.symm) hl
  have hrb := fun (w' : World) hb => repK.rd_below (w' := w') hp hb
  have hrb' := fun (w' : World) hb => repK.rd_below (w' := w') hq hb
  generalize sameN kn sf p.e kn' sf' q.e = D at *
  generalize hpe : p.e = pe at *
  generalize hpn : p.n = pn at *
  generalize hqe : q.e = qe at *
  generalize hqm : q.n = qn at *
  obtain ⟨vd, done, vb, base, vt, tent, vu, undos, vn, now⟩ := p
  obtain ⟨a0, k0, rfl⟩ : ∃ a c, vd = .slice a done.length c := hp.1.shape
  obtain ⟨a1, k1, rfl⟩ : ∃ a c, vb = .slice a base.length c := hp.2.1.shape
  obtain ⟨a2, k2, rfl⟩ : ∃ a c, vt = .slice a tent.length c := hp.2.2.1.shape
  obtain ⟨a3, k3, rfl⟩ : ∃ a c, vu = .slice a undos.length c := hp.2.2.2.1.shape
  obtain ⟨a4, k4, rfl⟩ : ∃ a c, vn = .slice a now.length c := hp.2.2.2.2.shape
  obtain ⟨vd', done', vb', base', vt', tent', vu', undos', vn', now'⟩ := q
  obtain ⟨a0', k0', rfl⟩ : ∃ a c, vd' = .slice a done'.length c := hq.1.shape
  obtain ⟨a1', k1', rfl⟩ : ∃ a c, vb' = .slice a base'.length c := hq.2.1.shape
  obtain ⟨a2', k2', rfl⟩ : ∃ a c, vt' = .slice a tent'.length c := hq.2.2.1.shape
  obtain ⟨a3', k3', rfl⟩ : ∃ a c, vu' = .slice a undos'.length c := hq.2.2.2.1.shape
  obtain ⟨a4', k4', rfl⟩ : ∃ a c, vn' = .slice a now'.length c := hq.2.2.2.2.shape
  dsimp only at hsz hsz' hto hto' hrb hrb'
  have b0 : Below w.heap.size w ((w.alloc (.cells #[.int .i64 kn, .int .i64 sf, .slice a0 done.length k0, .slice a1 base.length k1, .slice a2 tent.length k2, .slice a3 undos.length k3, .slice a4 now.length k4] 28)).alloc (.cells #[.int .i64 kn', .int .i64 sf', .slice a0' done'.length k0', .slice a1' base'.length k1', .slice a2' tent'.length k2', .slice a3' undos'.length k3', .slice a4' now'.length k4'] 28)) := by go_grown
  have A0 := (Blk.new w 28 #[.int .i64 kn, .int .i64 sf, .slice a0 done.length k0, .slice a1 base.length k1, .slice a2 tent.length k2, .slice a3 undos.length k3, .slice a4 now.length k4]).below (w' := ((w.alloc (.cells #[.int .i64 kn, .int .i64 sf, .slice a0 done.length k0, .slice a1 base.length k1, .slice a2 tent.length k2, .slice a3 undos.length k3, .slice a4 now.length k4] 28)).alloc (.cells #[.int .i64 kn', .int .i64 sf', .slice a0' done'.length k0', .slice a1' base'.length k1', .slice a2' tent'.length k2', .slice a3' undos'.length k3', .slice a4' now'.length k4'] 28))) (by go_grown)
  have A1 := Blk.new (w.alloc (.cells #[.int .i64 kn, .int .i64 sf, .slice a0 done.length k0, .slice a1 base.length k1, .slice a2 tent.length k2, .slice a3 undos.length k3, .slice a4 now.length k4] 28)) 28 #[.int .i64 kn', .int .i64 sf', .slice a0' done'.length k0', .slice a1' base'.length k1', .slice a2' tent'.length k2', .slice a3' undos'.length k3', .slice a4' now'.length k4']
  simp only [World.size_alloc] at A1
  have p0 := A0.cell 0 _ rfl
  have p1 := A0.cell 1 _ rfl
  have p2 := A0.cell 2 _ rfl
  have p3 := A0.cell 3 _ rfl
  have p4 := A0.cell 4 _ rfl
  have p5 := A0.cell 5 _ rfl
  have p6 := A0.cell 6 _ rfl
  go_enter Try.func3, Try.ntmps3
  go_wp2_with fail
  clear p0 p1 p2 p3 p4 p5 p6
  generalize ((w.alloc (.cells #[.int .i64 kn, .int .i64 sf, .slice a0 done.length k0, .slice a1 base.length k1, .slice a2 tent.length k2, .slice a3 undos.length k3, .slice a4 now.length k4] 28)).alloc (.cells #[.int .i64 kn', .int .i64 sf', .slice a0' done'.length k0', .slice a1' base'.length k1', .slice a2' tent'.length k2', .slice a3' undos'.length k3', .slice a4' now'.length k4'] 28)) = W at *
  refine (hsz W (hrb W b0)).mono ?_
  rintro e w1 ⟨r, rfl, hr, hb⟩
  replace A0 := A0.below hb
  replace A1 := A1.below hb
  replace b0 := b0.trans (hb.mono b0.size)
  clear hb
  clear hsz
  by_cases hneg : r < 0
  · go_wp2
    go_ret
    exact ⟨rfl, b0⟩
  have hl : ((pn : Nat) : Int) + r = 1048576 := hr (by omega)
  clear hr
  have p0 := A1.cell 0 _ rfl
  have p1 := A1.cell 1 _ rfl
  have p2 := A1.cell 2 _ rfl
  have p3 := A1.cell 3 _ rfl
  have p4 := A1.cell 4 _ rfl
  have p5 := A1.cell 5 _ rfl
  have p6 := A1.cell 6 _ rfl
  go_wp2_with fail
  clear p0 p1 p2 p3 p4 p5 p6
  refine (hsz' r w1 (hrb' w1 b0) (by omega) (by omega)).mono ?_
  rintro e w2 ⟨r', rfl, hr, hb⟩
  replace A0 := A0.below hb
  replace A1 := A1.below hb
  replace b0 := b0.trans (hb.mono b0.size)
  clear hb
  clear hsz'
  by_cases hneg' : r' < 0
  · go_wp2
    go_ret
    exact ⟨rfl, b0⟩
  have hl' : ((qn : Nat) : Int) + r' = r := hr (by omega)
  clear hr
  replace hl' : qn ≤ 1048576 := by omega
  replace hl : pn ≤ 1048576 := by omega
  go_wp2_with fail
  clear hneg hneg'
  have Hhto : Hid _ := hto
  clear hto
  have Hhto' : Hid _ := hto'
  clear hto'
  have Hhsp : Hid _ := hsp
  clear hsp
  have Hhim : Hid _ := him
  clear him
  have Hhqn : Hid _ := hqn
  clear hqn
  have Hhqn' : Hid _ := hqn'
  clear hqn'
  have Hheq : Hid _ := heq
  clear heq
  have Hheq' : Hid _ := heq'
  clear heq'
  have Hhrb : Hid _ := hrb
  clear hrb
  have Hhrb' : Hid _ := hrb'
  clear hrb'
  clear hpe hpn hqe hqm
  have hW : Below w2.heap.size w2 w2.drew := (Below.refl _ _).drew
  have hnn : Nonempty (Lat w2) := ⟨⟨w2, Below.refl _ _⟩⟩
  have ff0 := A0.lat 0 _ rfl
  have ff1 := A0.lat 1 _ rfl
  have ff2 := A0.lat 2 _ rfl
  have ff3 := A0.lat 3 _ rfl
  have ff4 := A0.lat 4 _ rfl
  have ff5 := A0.lat 5 _ rfl
  have ff6 := A0.lat 6 _ rfl
  have gg0 := A1.lat 0 _ rfl
  have gg1 := A1.lat 1 _ rfl
  have gg2 := A1.lat 2 _ rfl
  have gg3 := A1.lat 3 _ rfl
  have gg4 := A1.lat 4 _ rfl
  have gg5 := A1.lat 5 _ rfl
  have gg6 := A1.lat 6 _ rfl
  refine text_begin (S := fun w' => ∃ u : Lat w2, w' = u.val) (by kernel_rfl) ?_
  refine seg_range [(0, 1), (2, 1)] 4 (by kernel_rfl) (by kernel_rfl) (by kernel_rfl) (by kernel_rfl) (by kernel_rfl) ⟨⟨_, hW⟩, rfl⟩ ?_
  simp only [pickR, List.toList_toArray, List.flatMap_cons, List.flatMap_nil, List.drop_succ_cons, List.drop_zero, List.take_succ_cons, List.take_zero, List.cons_append, List.nil_append, List.append_nil]
  repeat go_big_quiet_step (fail)
  refine wpQuiet_nil ?_
  refine call_at 1 (some 21) 6 #[.agg #[.int .i64 kn, .int .i64 sf, .slice a0 done.length k0, .slice a1 base.length k1, .slice a2 tent.length k2, .slice a3 undos.length k3, .slice a4 now.length k4]] 3 (by kernel_rfl) (by kernel_rfl) (by kernel_rfl) (by kernel_rfl) (by kernel_rfl) ?_
  refine (Hhto.out _ (Hhrb.out _ (b0.trans (hW.mono b0.size))) hl).mono ?_
  rintro e w9 ⟨q1, rfl, e1, o1, _, _, hb9⟩
  replace hW := hW.trans (hb9.mono hW.size)
  clear hb9
  refine ⟨_, rfl, ⟨⟨_, hW⟩, rfl⟩, ?_⟩
  simp only [Act.put, List.setIfInBounds_toArray, List.set_cons_zero, List.set_cons_succ]
  refine call_at 3 (some 23) 6 #[.agg #[.int .i64 kn', .int .i64 sf', .slice a0' done'.length k0', .slice a1' base'.length k1', .slice a2' tent'.length k2', .slice a3' undos'.length k3', .slice a4' now'.length k4']] 2 (by kernel_rfl) (by kernel_rfl) (by kernel_rfl) (by kernel_rfl) (by kernel_rfl) ?_
  refine (Hhto'.out _ (Hhrb'.out _ (b0.trans (hW.mono b0.size))) hl').mono ?_
  rintro e w9 ⟨q2, rfl, e2, o2, _, _, hb9⟩
  replace hW := hW.trans (hb9.mono hW.size)
  replace o1 := repK.own_out (F := []) o1 (Out.of_below hb9) (fun _ _ => by simp)
  clear hb9
  refine ⟨_, rfl, ⟨⟨_, hW⟩, rfl⟩, ?_⟩
  simp only [Act.put, List.setIfInBounds_toArray, List.set_cons_zero, List.set_cons_succ]
  refine call_at 4 (some 24) 5 #[.agg #[.int .i64 kn, .int .i64 sf, q1.vd, q1.vb, q1.vt, q1.vu, q1.vn], .agg #[.int .i64 kn', .int .i64 sf', q2.vd, q2.vb, q2.vt, q2.vu, q2.vn]] 1 (by kernel_rfl) (by kernel_rfl) (by kernel_rfl) (by kernel_rfl) (by kernel_rfl) ?_
  refine (Hhsp.out q1 q2 e1 e2 _ (repK.own_rd o1) (repK.own_rd o2) (by rw [Hhqn.out q1 e1]; exact hl) (by rw [Hhqn'.out q2 e2]; exact hl')).mono ?_
  rintro e w9 ⟨rfl, hb9⟩
  replace hW := hW.trans (hb9.mono hW.size)
  clear hb9
  refine ⟨_, rfl, ⟨⟨_, hW⟩, rfl⟩, ?_⟩
  simp only [Act.put, List.setIfInBounds_toArray, List.set_cons_zero, List.set_cons_succ]
  refine seg_range [(5, 1)] 0 (by kernel_rfl) (by kernel_rfl) (by kernel_rfl) (by kernel_rfl) (by kernel_rfl) ⟨⟨_, hW⟩, rfl⟩ ?_
  simp only [pickR, List.toList_toArray, List.flatMap_cons, List.flatMap_nil, List.drop_succ_cons, List.drop_zero, List.take_succ_cons, List.take_zero, List.cons_append, List.nil_append, List.append_nil]
  repeat go_big_quiet_step (fail)
  refine wpQuiet_nil ?_
  refine text_end (by kernel_rfl) ?_
  clear hnn ff0 ff1 ff2 ff3 ff4 ff5 ff6 gg0 gg1 gg2 gg3 gg4 gg5 gg6
  clear o1 o2 e1 e2 Hhsp
  replace A0 := A0.below hW
  replace A1 := A1.below hW
  replace b0 := b0.trans (hW.mono b0.size)
  clear hW
  have p0 := A0.cell 0 _ rfl
  have p1 := A0.cell 1 _ rfl
  have p2 := A0.cell 2 _ rfl
  have p3 := A0.cell 3 _ rfl
  have p4 := A0.cell 4 _ rfl
  have p5 := A0.cell 5 _ rfl
  have p6 := A0.cell 6 _ rfl
  go_wp2_with fail
  clear p0 p1 p2 p3 p4 p5 p6
  refine (Hhto.out _ (Hhrb.out _ b0) hl).mono ?_
  rintro e w4 ⟨q3, rfl, e3, o3, _, _, hb⟩
  replace A0 := A0.below hb
  replace A1 := A1.below hb
  replace b0 := b0.trans (hb.mono b0.size)
  clear hb
  have hl3 : RepQ.n q3 ≤ 1048576 := by rw [Hhqn.out q3 e3]; exact hl
  have hi3 := fun b hb w h h' hl' => Hhim.out q3 b e3 hb w h h' hl3 hl'
  have he3 := fun q' hq' w h h' => Hheq.out q3 q' e3 hq' w h h' hl3
  obtain ⟨vd3, done3, vb3, base3, vt3, tent3, vu3, undos3, vn3, now3⟩ := q3
  obtain ⟨a03, k03, rfl⟩ : ∃ a c, vd3 = .slice a done3.length c := o3.1.shape
  obtain ⟨a13, k13, rfl⟩ : ∃ a c, vb3 = .slice a base3.length c := o3.2.1.shape
  obtain ⟨a23, k23, rfl⟩ : ∃ a c, vt3 = .slice a tent3.length c := o3.2.2.1.shape
  obtain ⟨a33, k33, rfl⟩ : ∃ a c, vu3 = .slice a undos3.length c := o3.2.2.2.1.shape
  obtain ⟨a43, k43, rfl⟩ : ∃ a c, vn3 = .slice a now3.length c := o3.2.2.2.2.shape
  dsimp only at hi3 he3
  have HI3 : Hid _ := hi3
  have HE3 : Hid _ := he3
  clear hi3 he3
  have X0 := Blk.new w4 37 #[.int .i64 kn, .int .i64 sf, .slice a03 done3.length k03, .slice a13 base3.length k13, .slice a23 tent3.length k23, .slice a33 undos3.length k33, .slice a43 now3.length k43]
  have hb : Below w4.heap.size w4 (w4.alloc (.cells #[.int .i64 kn, .int .i64 sf, .slice a03 done3.length k03, .slice a13 base3.length k13, .slice a23 tent3.length k23, .slice a33 undos3.length k33, .slice a43 now3.length k43] 37)) := by go_grown
  replace A0 := A0.below hb
  replace A1 := A1.below hb
  replace o3 := repK.own_out (F := []) o3 (Out.of_below hb) (fun _ _ => by simp)
  replace b0 := b0.trans (hb.mono b0.size)
  clear hb
  have p0 := A1.cell 0 _ rfl
  have p1 := A1.cell 1 _ rfl
  have p2 := A1.cell 2 _ rfl
  have p3 := A1.cell 3 _ rfl
  have p4 := A1.cell 4 _ rfl
  have p5 := A1.cell 5 _ rfl
  have p6 := A1.cell 6 _ rfl
  go_wp2_with fail
  clear p0 p1 p2 p3 p4 p5 p6
  generalize w4.alloc (.cells #[.int .i64 kn, .int .i64 sf, .slice a03 done3.length k03, .slice a13 base3.length k13, .slice a23 tent3.length k23, .slice a33 undos3.length k33, .slice a43 now3.length k43] 37) = W4 at *
  refine (Hhto'.out _ (Hhrb'.out _ b0) hl').mono ?_
  rintro e w5 ⟨q4, rfl, e4, o4, _, _, hb⟩
  replace A0 := A0.below hb
  replace A1 := A1.below hb
  replace X0 := X0.below hb
  replace o3 := repK.own_out (F := []) o3 (Out.of_below hb) (fun _ _ => by simp)
  replace b0 := b0.trans (hb.mono b0.size)
  clear hb
  have hl4 : RepQ.n q4 ≤ 1048576 := by rw [Hhqn'.out q4 e4]; exact hl'
  have hi4 := fun w h h' => HI3.out q4 e4 w h h' hl4
  have he4 := fun q' hq' w h h' => Hheq'.out q4 q' e4 hq' w h h' hl4
  obtain ⟨vd4, done4, vb4, base4, vt4, tent4, vu4, undos4, vn4, now4⟩ := q4
  obtain ⟨a04, k04, rfl⟩ : ∃ a c, vd4 = .slice a done4.length c := o4.1.shape
  obtain ⟨a14, k14, rfl⟩ : ∃ a c, vb4 = .slice a base4.length c := o4.2.1.shape
  obtain ⟨a24, k24, rfl⟩ : ∃ a c, vt4 = .slice a tent4.length c := o4.2.2.1.shape
  obtain ⟨a34, k34, rfl⟩ : ∃ a c, vu4 = .slice a undos4.length c := o4.2.2.2.1.shape
  obtain ⟨a44, k44, rfl⟩ : ∃ a c, vn4 = .slice a now4.length c := o4.2.2.2.2.shape
  dsimp only at hi4 he4
  have HI4 : Hid _ := hi4
  have HE4 : Hid _ := he4
  clear hi4 he4
  have Y0 := Blk.new w5 37 #[.int .i64 kn', .int .i64 sf', .slice a04 done4.length k04, .slice a14 base4.length k14, .slice a24 tent4.length k24, .slice a34 undos4.length k34, .slice a44 now4.length k44]
  have hb : Below w5.heap.size w5 (w5.alloc (.cells #[.int .i64 kn', .int .i64 sf', .slice a04 done4.length k04, .slice a14 base4.length k14, .slice a24 tent4.length k24, .slice a34 undos4.length k34, .slice a44 now4.length k44] 37)) := by go_grown
  replace A0 := A0.below hb
  replace A1 := A1.below hb
  replace X0 := X0.below hb
  replace o3 := repK.own_out (F := []) o3 (Out.of_below hb) (fun _ _ => by simp)
  replace o4 := repK.own_out (F := []) o4 (Out.of_below hb) (fun _ _ => by simp)
  replace b0 := b0.trans (hb.mono b0.size)
  clear hb
  have p0 := X0.cell 0 _ rfl
  have p1 := X0.cell 1 _ rfl
  have p2 := X0.cell 2 _ rfl
  have p3 := X0.cell 3 _ rfl
  have p4 := X0.cell 4 _ rfl
  have p5 := X0.cell 5 _ rfl
  have p6 := X0.cell 6 _ rfl
  have r0 := Y0.cell 0 _ rfl
  have r1 := Y0.cell 1 _ rfl
  have r2 := Y0.cell 2 _ rfl
  have r3 := Y0.cell 3 _ rfl
  have r4 := Y0.cell 4 _ rfl
  have r5 := Y0.cell 5 _ rfl
  have r6 := Y0.cell 6 _ rfl
  go_wp2_with fail
  clear p0 p1 p2 p3 p4 p5 p6
  clear r0 r1 r2 r3 r4 r5 r6
  generalize w5.alloc (.cells #[.int .i64 kn', .int .i64 sf', .slice a04 done4.length k04, .slice a14 base4.length k14, .slice a24 tent4.length k24, .slice a34 undos4.length k34, .slice a44 now4.length k44] 37) = W5 at *
  refine (HI4.out _ (repK.own_rd o3) (repK.own_rd o4)).mono ?_
  rintro e w6 ⟨rfl, hb⟩
  replace A0 := A0.below hb
  replace A1 := A1.below hb
  replace X0 := X0.below hb
  replace Y0 := Y0.below hb
  replace o3 := repK.own_out (F := []) o3 (Out.of_below hb) (fun _ _ => by simp)
  replace o4 := repK.own_out (F := []) o4 (Out.of_below hb) (fun _ _ => by simp)
  replace b0 := b0.trans (hb.mono b0.size)
  clear hb
  clear HI3 HI4
  have hne : (D != D) = false := by simp
  go_wp2_with fail
  clear hne
  have hW : Below w6.heap.size w6 w6.drew := (Below.refl _ _).drew
  have hnn : Nonempty (Lat w6) := ⟨⟨w6, Below.refl _ _⟩⟩
  have ff0 := A0.lat 0 _ rfl
  have ff1 := A0.lat 1 _ rfl
  have ff2 := A0.lat 2 _ rfl
  have ff3 := A0.lat 3 _ rfl
  have ff4 := A0.lat 4 _ rfl
  have ff5 := A0.lat 5 _ rfl
  have ff6 := A0.lat 6 _ rfl
  have gg0 := X0.lat 0 _ rfl
  have gg1 := X0.lat 1 _ rfl
  have gg2 := X0.lat 2 _ rfl
  have gg3 := X0.lat 3 _ rfl
  have gg4 := X0.lat 4 _ rfl
  have gg5 := X0.lat 5 _ rfl
  have gg6 := X0.lat 6 _ rfl
  refine text_begin (S := fun w' => ∃ u : Lat w6, w' = u.val) (by kernel_rfl) ?_
  refine seg_range [(0, 2)] 3 (by kernel_rfl) (by kernel_rfl) (by kernel_rfl) (by kernel_rfl) (by kernel_rfl) ⟨⟨_, hW⟩, rfl⟩ ?_
  simp only [pickR, List.toList_toArray, List.flatMap_cons, List.flatMap_nil, List.drop_succ_cons, List.drop_zero, List.take_succ_cons, List.take_zero, List.cons_append, List.nil_append, List.append_nil]
  repeat go_big_quiet_step (fail)
  refine wpQuiet_nil ?_
  refine call_at 2 (some 37) 6 #[.agg #[.int .i64 kn, .int .i64 sf, .slice a0 done.length k0, .slice a1 base.length k1, .slice a2 tent.length k2, .slice a3 undos.length k3, .slice a4 now.length k4]] 2 (by kernel_rfl) (by kernel_rfl) (by kernel_rfl) (by kernel_rfl) (by kernel_rfl) ?_
  refine (Hhto.out _ (Hhrb.out _ (b0.trans (hW.mono b0.size))) hl).mono ?_
  rintro e w9 ⟨q9, rfl, e9, o9, _, _, hb9⟩
  replace hW := hW.trans (hb9.mono hW.size)
  clear hb9
  refine ⟨_, rfl, ⟨⟨_, hW⟩, rfl⟩, ?_⟩
  simp only [Act.put, List.setIfInBounds_toArray, List.set_cons_zero, List.set_cons_succ]
  refine call_at 3 (some 38) 8 #[.agg #[.int .i64 kn, .int .i64 sf, .slice a03 done3.length k03, .slice a13 base3.length k13, .slice a23 tent3.length k23, .slice a33 undos3.length k33, .slice a43 now3.length k43], .agg #[.int .i64 kn, .int .i64 sf, q9.vd, q9.vb, q9.vt, q9.vu, q9.vn]] 1 (by kernel_rfl) (by kernel_rfl) (by kernel_rfl) (by kernel_rfl) (by kernel_rfl) ?_
  refine (HE3.out q9 e9 _ (repK.rd_below (repK.own_rd o3) hW) (repK.own_rd o9)).mono ?_
  rintro e wz ⟨rfl, hb9⟩
  replace hW := hW.trans (hb9.mono hW.size)
  clear hb9
  refine ⟨_, rfl, ⟨⟨_, hW⟩, rfl⟩, ?_⟩
  simp only [Act.put, List.setIfInBounds_toArray, List.set_cons_zero, List.set_cons_succ]
  refine seg_range [(4, 1)] 0 (by kernel_rfl) (by kernel_rfl) (by kernel_rfl) (by kernel_rfl) (by kernel_rfl) ⟨⟨_, hW⟩, rfl⟩ ?_
  simp only [pickR, List.toList_toArray, List.flatMap_cons, List.flatMap_nil, List.drop_succ_cons, List.drop_zero, List.take_succ_cons, List.take_zero, List.cons_append, List.nil_append, List.append_nil]
  repeat go_big_quiet_step (fail)
  refine wpQuiet_nil ?_
  refine text_end (by kernel_rfl) ?_
  clear hnn ff0 ff1 ff2 ff3 ff4 ff5 ff6 gg0 gg1 gg2 gg3 gg4 gg5 gg6
  clear o9 e9
  replace A0 := A0.below hW
  replace A1 := A1.below hW
  replace X0 := X0.below hW
  replace Y0 := Y0.below hW
  replace o3 := repK.own_out (F := []) o3 (Out.of_below hW) (fun _ _ => by simp)
  replace o4 := repK.own_out (F := []) o4 (Out.of_below hW) (fun _ _ => by simp)
  replace b0 := b0.trans (hW.mono b0.size)
  clear hW
  go_wp2_with fail
  have hW : Below wz.heap.size wz wz.drew := (Below.refl _ _).drew
  have hnn : Nonempty (Lat wz) := ⟨⟨wz, Below.refl _ _⟩⟩
  have ff0 := A1.lat 0 _ rfl
  have ff1 := A1.lat 1 _ rfl
  have ff2 := A1.lat 2 _ rfl
  have ff3 := A1.lat 3 _ rfl
  have ff4 := A1.lat 4 _ rfl
  have ff5 := A1.lat 5 _ rfl
  have ff6 := A1.lat 6 _ rfl
  have gg0 := Y0.lat 0 _ rfl
  have gg1 := Y0.lat 1 _ rfl
  have gg2 := Y0.lat 2 _ rfl
  have gg3 := Y0.lat 3 _ rfl
  have gg4 := Y0.lat 4 _ rfl
  have gg5 := Y0.lat 5 _ rfl
  have gg6 := Y0.lat 6 _ rfl
  refine text_begin (S := fun w' => ∃ u : Lat wz, w' = u.val) (by kernel_rfl) ?_
  refine seg_range [(0, 2)] 3 (by kernel_rfl) (by kernel_rfl) (by kernel_rfl) (by kernel_rfl) (by kernel_rfl) ⟨⟨_, hW⟩, rfl⟩ ?_
  simp only [pickR, List.toList_toArray, List.flatMap_cons, List.flatMap_nil, List.drop_succ_cons, List.drop_zero, List.take_succ_cons, List.take_zero, List.cons_append, List.nil_append, List.append_nil]
  repeat go_big_quiet_step (fail)
  refine wpQuiet_nil ?_
  refine call_at 2 (some 42) 6 #[.agg #[.int .i64 kn', .int .i64 sf', .slice a0' done'.length k0', .slice a1' base'.length k1', .slice a2' tent'.length k2', .slice a3' undos'.length k3', .slice a4' now'.length k4']] 2 (by kernel_rfl) (by kernel_rfl) (by kernel_rfl) (by kernel_rfl) (by kernel_rfl) ?_
  refine (Hhto'.out _ (Hhrb'.out _ (b0.trans (hW.mono b0.size))) hl').mono ?_
  rintro e w9 ⟨q9, rfl, e9, o9, _, _, hb9⟩
  replace hW := hW.trans (hb9.mono hW.size)
  clear hb9
  refine ⟨_, rfl, ⟨⟨_, hW⟩, rfl⟩, ?_⟩
  simp only [Act.put, List.setIfInBounds_toArray, List.set_cons_zero, List.set_cons_succ]
  refine call_at 3 (some 43) 8 #[.agg #[.int .i64 kn', .int .i64 sf', .slice a04 done4.length k04, .slice a14 base4.length k14, .slice a24 tent4.length k24, .slice a34 undos4.length k34, .slice a44 now4.length k44], .agg #[.int .i64 kn', .int .i64 sf', q9.vd, q9.vb, q9.vt, q9.vu, q9.vn]] 1 (by kernel_rfl) (by kernel_rfl) (by kernel_rfl) (by kernel_rfl) (by kernel_rfl) ?_
  refine (HE4.out q9 e9 _ (repK.rd_below (repK.own_rd o4) hW) (repK.own_rd o9)).mono ?_
  rintro e w9 ⟨rfl, hb9⟩
  replace hW := hW.trans (hb9.mono hW.size)
  clear hb9
  refine ⟨_, rfl, ⟨⟨_, hW⟩, rfl⟩, ?_⟩
  simp only [Act.put, List.setIfInBounds_toArray, List.set_cons_zero, List.set_cons_succ]
  refine seg_range [(4, 1)] 0 (by kernel_rfl) (by kernel_rfl) (by kernel_rfl) (by kernel_rfl) (by kernel_rfl) ⟨⟨_, hW⟩, rfl⟩ ?_
  simp only [pickR, List.toList_toArray, List.flatMap_cons, List.flatMap_nil, List.drop_succ_cons, List.drop_zero, List.take_succ_cons, List.take_zero, List.cons_append, List.nil_append, List.append_nil]
  repeat go_big_quiet_step (fail)
  refine wpQuiet_nil ?_
  refine text_end (by kernel_rfl) ?_
  clear hnn ff0 ff1 ff2 ff3 ff4 ff5 ff6 gg0 gg1 gg2 gg3 gg4 gg5 gg6
  replace b0 := b0.trans (hW.mono b0.size)
  clear o9 e9 o3 o4 A0 A1 X0 Y0 hW
  go_wp2
  go_ret
  exact ⟨rfl, b0⟩

end Go.Proofs.Ytpmkhnakgeillaa

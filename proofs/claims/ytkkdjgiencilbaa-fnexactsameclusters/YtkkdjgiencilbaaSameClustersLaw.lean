/- The law FnExactSameClusters, walked: at any two clusters that can be read it answers true, and it writes into nothing that was there. -/
import Derived.Test.YtkkdjgiencilbaaSc12
namespace Go.Proofs.Ytkkdjgiencilbaa
open Go.RowKit
open Go.BigFrame
set_option linter.unusedVariables false
set_option linter.unusedSimpArgs false

theorem inst_n {q p : InstQ} (h : q.e = p.e) : q.n = p.n := by
  simp only [InstQ.e, InstE.mk.injEq] at h
  obtain ⟨_, h1, h2, h3⟩ := h
  have t1 : q.batch.length = p.batch.length := by simpa using congrArg List.length h1
  have t2 : nmL TxnQ.n q.batch = nmL TxnQ.n p.batch := by
    have := congrArg (fun l => nmL (fun d : TxnD => d.acts.length) l) h1
    simp only [nmL, List.map_map] at this
    exact this
  have t3 : q.rounds.length = p.rounds.length := by simpa using congrArg List.length h2
  have t4 : nmL RoundQ.n q.rounds = nmL RoundQ.n p.rounds := by
    have := congrArg (fun l => nmL (fun d : RoundE => d.rep.length + d.pro.length) l) h2
    simp only [nmL, List.map_map] at this
    exact this
  unfold InstQ.n
  rw [t1, t2, t3, t4, h3]
theorem insts_n' {qs ps : List InstQ} (h : qs.map InstQ.e = ps.map InstQ.e) : qs.length + nmL InstQ.n qs = ps.length + nmL InstQ.n ps := by
  induction qs generalizing ps with
  | nil =>
    cases ps with
    | nil => rfl
    | cons p r => simp at h
  | cons q s ih =>
    cases ps with
    | nil => simp at h
    | cons p r =>
      simp only [List.map_cons, List.cons.injEq] at h
      have h1 := inst_n h.1
      have h2 := ih h.2
      simp only [nmL, List.map_cons, List.sum_cons, List.length_cons] at h2 ⊢
      omega
theorem uss_n {ps qs : List USQ} (h : ps.map USQ.e = qs.map USQ.e) : ps.length + nmL USQ.n ps = qs.length + nmL USQ.n qs := by
  have e : ∀ l : List USQ, nmL USQ.n l = nmL List.length (l.map USQ.e) := fun l => by simp only [nmL, List.map_map]; rfl
  have hl : ps.length = qs.length := by simpa using congrArg List.length h
  rw [e, e, h, hl]
theorem txq_n {ps qs : List TxnQ} (h : ps.map TxnQ.e = qs.map TxnQ.e) : ps.length + nmL TxnQ.n ps = qs.length + nmL TxnQ.n qs := by
  have e : ∀ l : List TxnQ, nmL TxnQ.n l = nmL TxnD.n (l.map TxnQ.e) := fun l => by simp only [nmL, List.map_map]; rfl
  have hl : ps.length = qs.length := by simpa using congrArg List.length h
  rw [e, e, h, hl]
theorem rep_n {p q : RepQ} (h : p.e = q.e) : p.n = q.n := by
  simp only [RepQ.e, RepE.mk.injEq] at h
  obtain ⟨h0, h1, h2, h3, h4⟩ := h
  simp only [RepQ.n]
  have a0 := txq_n h0
  have a2 := txq_n h2
  have a3 := uss_n h3
  rw [h1, h4]
  omega
theorem node_n {p q : NodeQ} (h : p.e = q.e) : p.n = q.n := by
  simp only [NodeQ.e, NodeE.mk.injEq] at h
  exact rep_n h.2.2
theorem nodes_n {ps qs : List NodeQ} (h : ps.map NodeQ.e = qs.map NodeQ.e) : ps.length + nmL NodeQ.n ps = qs.length + nmL NodeQ.n qs := by
  induction ps generalizing qs with
  | nil =>
    have : qs = [] := by simpa using h.symm
    rw [this]
  | cons p r ih =>
    cases qs with
    | nil => simp at h
    | cons q s =>
      simp only [List.map_cons, List.cons.injEq] at h
      have h1 := node_n h.1
      have h2 := ih h.2
      simp only [nmL, List.map_cons, List.sum_cons, List.length_cons] at h2 ⊢
      omega
theorem clu_n {p q : CluQ} (h : p.e = q.e) : p.n = q.n := by
  simp only [CluQ.e, CluE.mk.injEq] at h
  have h1 := insts_n' h.1
  have h2 := nodes_n h.2
  unfold CluQ.n
  omega

theorem specSN_e (p q : CluQ) (x y : CluE) (hx : p.e = x) (hy : q.e = y) (w : World) (h : cluK.rd w p) (h' : cluK.rd w q) (hl : p.n ≤ 1048576) (hl' : q.n ≤ 1048576) :
    Calls Try.prog 8 #[.agg #[p.vo, p.vm], .agg #[q.vo, q.vm]] w fun e w' => e = .returned (.bool (sameC x y)) ∧ Below w.heap.size w w' := by
  subst hx hy
  exact specSameClusters_any p q w h h' hl hl'
theorem implSN_e (p q : CluQ) (x y : CluE) (hx : p.e = x) (hy : q.e = y) (w : World) (h : cluK.rd w p) (h' : cluK.rd w q) (hl : p.n ≤ 1048576) (hl' : q.n ≤ 1048576) :
    Calls Try.prog 10 #[.agg #[p.vo, p.vm], .agg #[q.vo, q.vm]] w fun e w' => e = .returned (.bool (sameC x y)) ∧ Below w.heap.size w w' := by
  subst hx hy
  exact implSameClusters_any p q w h h' hl hl'

set_option maxRecDepth 100000 in
set_option maxHeartbeats 8000000 in
theorem sameClustersLaw (p q : CluQ) (w : World) (hp : cluK.rd w p) (hw : p.wf) (hq : cluK.rd w q) (hw' : q.wf) :
    Calls Try.prog 3 #[.agg #[p.vo, p.vm], .agg #[q.vo, q.vm]] w fun e w' => e = .returned (.bool true) ∧ Below w.heap.size w w' := by
  have hsz := fun w h => szCluster_k p 1048576 w h hw (by omega) (by omega)
  have hsz' := fun c w h h0 h1 => szCluster_k q c w h hw' h0 h1
  have hto := fun w h hl => toCluster_k p w h hl
  have hto' := fun w h hl => toCluster_k q w h hl
  have hsp := fun a b (ha : CluQ.e a = p.e) (hb : CluQ.e b = q.e) w h h' hl hl' => specSN_e a b _ _ ha hb w h h' hl hl'
  have him := fun a b (ha : CluQ.e a = p.e) (hb : CluQ.e b = q.e) w h h' hl hl' => implSN_e a b _ _ ha hb w h h' hl hl'
  have hqn : ∀ a : CluQ, a.e = p.e → a.n = p.n := fun q hq => clu_n hq
  have hqn' : ∀ a : CluQ, a.e = q.e → a.n = q.n := fun q hq => clu_n hq
  have heq := fun (a b : CluQ) (ha : a.e = p.e) (hb : b.e = p.e) w h h' hl => eqCluster_k a b w h h' (ha.trans hb.symm) hl
  have heq' := fun (a b : CluQ) (ha : a.e = q.e) (hb : b.e = q.e) w h h' hl => eqCluster_k a b w h h' (ha.trans hb.symm) hl
  have hrb := fun (w' : World) hb => cluK.rd_below (w' := w') hp hb
  have hrb' := fun (w' : World) hb => cluK.rd_below (w' := w') hq hb
  generalize sameC p.e q.e = D at *
  generalize hpe : p.e = pe at *
  generalize hpn : p.n = pn at *
  generalize hqe : q.e = qe at *
  generalize hqm : q.n = qn at *
  obtain ⟨vo, ord, vm, mem⟩ := p
  obtain ⟨a0, k0, rfl⟩ : ∃ a c, vo = .slice a ord.length c := hp.1.shape
  obtain ⟨a1, k1, rfl⟩ : ∃ a c, vm = .slice a mem.length c := hp.2.shape
  obtain ⟨vo', ord', vm', mem'⟩ := q
  obtain ⟨a0', k0', rfl⟩ : ∃ a c, vo' = .slice a ord'.length c := hq.1.shape
  obtain ⟨a1', k1', rfl⟩ : ∃ a c, vm' = .slice a mem'.length c := hq.2.shape
  dsimp only at hsz hsz' hto hto' hrb hrb'
  have b0 : Below w.heap.size w ((w.alloc (.cells #[.slice a0 ord.length k0, .slice a1 mem.length k1] 25)).alloc (.cells #[.slice a0' ord'.length k0', .slice a1' mem'.length k1'] 25)) := by go_grown
  have A0 := (Blk.new w 25 #[.slice a0 ord.length k0, .slice a1 mem.length k1]).below (w' := ((w.alloc (.cells #[.slice a0 ord.length k0, .slice a1 mem.length k1] 25)).alloc (.cells #[.slice a0' ord'.length k0', .slice a1' mem'.length k1'] 25))) (by go_grown)
  have A1 := Blk.new (w.alloc (.cells #[.slice a0 ord.length k0, .slice a1 mem.length k1] 25)) 25 #[.slice a0' ord'.length k0', .slice a1' mem'.length k1']
  simp only [World.size_alloc] at A1
  obtain ⟨p0, p1⟩ := A0.cel2
  go_enter Try.func3, Try.ntmps3
  go_wp2_with fail
  clear p0 p1
  generalize ((w.alloc (.cells #[.slice a0 ord.length k0, .slice a1 mem.length k1] 25)).alloc (.cells #[.slice a0' ord'.length k0', .slice a1' mem'.length k1'] 25)) = W at *
  refine (hsz W (hrb W b0)).mono ?_
  rintro e w1 ⟨r, rfl, hr, hb⟩
  replace A0 := A0.below hb
  replace A1 := A1.below hb
  replace b0 := b0.trans (hb.mono b0.size)
  clear hb
  clear hsz
  by_cases hneg : r < 0
  · go_wp2
    go_ret
    exact ⟨rfl, b0⟩
  have hl : ((pn : Nat) : Int) + r = 1048576 := hr (by omega)
  clear hr
  obtain ⟨p0, p1⟩ := A1.cel2
  go_wp2_with fail
  clear p0 p1
  refine (hsz' r w1 (hrb' w1 b0) (by omega) (by omega)).mono ?_
  rintro e w2 ⟨r', rfl, hr, hb⟩
  replace A0 := A0.below hb
  replace A1 := A1.below hb
  replace b0 := b0.trans (hb.mono b0.size)
  clear hb
  clear hsz'
  by_cases hneg' : r' < 0
  · go_wp2
    go_ret
    exact ⟨rfl, b0⟩
  have hl' : ((qn : Nat) : Int) + r' = r := hr (by omega)
  clear hr
  replace hl' : qn ≤ 1048576 := by omega
  replace hl : pn ≤ 1048576 := by omega
  go_wp2_with fail
  clear hneg hneg'
  have Hhto : Hid _ := hto
  clear hto
  have Hhto' : Hid _ := hto'
  clear hto'
  have Hhsp : Hid _ := hsp
  clear hsp
  have Hhim : Hid _ := him
  clear him
  have Hhqn : Hid _ := hqn
  clear hqn
  have Hhqn' : Hid _ := hqn'
  clear hqn'
  have Hheq : Hid _ := heq
  clear heq
  have Hheq' : Hid _ := heq'
  clear heq'
  have Hhrb : Hid _ := hrb
  clear hrb
  have Hhrb' : Hid _ := hrb'
  clear hrb'
  clear hpe hpn hqe hqm
  have hW : Below w2.heap.size w2 w2.drew := (Below.refl _ _).drew
  have hnn : Nonempty (Lat w2) := ⟨⟨w2, Below.refl _ _⟩⟩
  obtain ⟨ff0, ff1⟩ := A0.lts2
  obtain ⟨gg0, gg1⟩ := A1.lts2
  refine text_begin (S := fun w' => ∃ u : Lat w2, w' = u.val) (by kernel_rfl) ?_
  refine sgr [(0, 1), (2, 1)] 4 (by kernel_rfl) ⟨⟨_, hW⟩, rfl⟩ ?_
  simp only [pkE]
  repeat go_big_quiet_step (fail)
  refine wpQuiet_nil ?_
  refine cla 1 (some 21) 9 #[.agg #[.slice a0 ord.length k0, .slice a1 mem.length k1]] 3 (by kernel_rfl) ?_
  refine (Hhto.out _ (Hhrb.out _ (b0.trans (hW.mono b0.size))) hl).mono ?_
  rintro e w9 ⟨q1, rfl, e1, o1, _, _, hb9⟩
  replace hW := hW.trans (hb9.mono hW.size)
  clear hb9
  refine ⟨_, rfl, ⟨⟨_, hW⟩, rfl⟩, ?_⟩
  simp only [Act.put, pjE]
  refine cla 3 (some 23) 9 #[.agg #[.slice a0' ord'.length k0', .slice a1' mem'.length k1']] 2 (by kernel_rfl) ?_
  refine (Hhto'.out _ (Hhrb'.out _ (b0.trans (hW.mono b0.size))) hl').mono ?_
  rintro e w9 ⟨q2, rfl, e2, o2, _, _, hb9⟩
  replace hW := hW.trans (hb9.mono hW.size)
  replace o1 := cluK.own_out (F := []) o1 (Out.of_below hb9) (fun _ _ => by simp)
  clear hb9
  refine ⟨_, rfl, ⟨⟨_, hW⟩, rfl⟩, ?_⟩
  simp only [Act.put, pjE]
  refine cla 4 (some 24) 8 #[.agg #[q1.vo, q1.vm], .agg #[q2.vo, q2.vm]] 1 (by kernel_rfl) ?_
  refine (Hhsp.out q1 q2 e1 e2 _ (cluK.own_rd o1) (cluK.own_rd o2) (by rw [Hhqn.out q1 e1]; exact hl) (by rw [Hhqn'.out q2 e2]; exact hl')).mono ?_
  rintro e w9 ⟨rfl, hb9⟩
  replace hW := hW.trans (hb9.mono hW.size)
  clear hb9
  refine ⟨_, rfl, ⟨⟨_, hW⟩, rfl⟩, ?_⟩
  simp only [Act.put, pjE]
  refine sgr [(5, 1)] 0 (by kernel_rfl) ⟨⟨_, hW⟩, rfl⟩ ?_
  simp only [pkE]
  repeat go_big_quiet_step (fail)
  refine wpQuiet_nil ?_
  refine text_end (by kernel_rfl) ?_
  clear hnn ff0 ff1 gg0 gg1
  clear o1 o2 e1 e2 Hhsp
  replace A0 := A0.below hW
  replace A1 := A1.below hW
  replace b0 := b0.trans (hW.mono b0.size)
  clear hW
  obtain ⟨p0, p1⟩ := A0.cel2
  go_wp2_with fail
  clear p0 p1
  refine (Hhto.out _ (Hhrb.out _ b0) hl).mono ?_
  rintro e w4 ⟨q3, rfl, e3, o3, _, _, hb⟩
  replace A0 := A0.below hb
  replace A1 := A1.below hb
  replace b0 := b0.trans (hb.mono b0.size)
  clear hb
  have hl3 : CluQ.n q3 ≤ 1048576 := by rw [Hhqn.out q3 e3]; exact hl
  have hi3 := fun b hb w h h' hl' => Hhim.out q3 b e3 hb w h h' hl3 hl'
  have he3 := fun q' hq' w h h' => Hheq.out q3 q' e3 hq' w h h' hl3
  obtain ⟨vo3, ord3, vm3, mem3⟩ := q3
  obtain ⟨a03, k03, rfl⟩ : ∃ a c, vo3 = .slice a ord3.length c := o3.1.shape
  obtain ⟨a13, k13, rfl⟩ : ∃ a c, vm3 = .slice a mem3.length c := o3.2.shape
  dsimp only at hi3 he3
  have HI3 : Hid _ := hi3
  have HE3 : Hid _ := he3
  clear hi3 he3
  have X0 := Blk.new w4 31 #[.slice a03 ord3.length k03, .slice a13 mem3.length k13]
  have hb : Below w4.heap.size w4 (w4.alloc (.cells #[.slice a03 ord3.length k03, .slice a13 mem3.length k13] 31)) := by go_grown
  replace A0 := A0.below hb
  replace A1 := A1.below hb
  replace o3 := cluK.own_out (F := []) o3 (Out.of_below hb) (fun _ _ => by simp)
  replace b0 := b0.trans (hb.mono b0.size)
  clear hb
  obtain ⟨p0, p1⟩ := A1.cel2
  go_wp2_with fail
  clear p0 p1
  generalize w4.alloc (.cells #[.slice a03 ord3.length k03, .slice a13 mem3.length k13] 31) = W4 at *
  refine (Hhto'.out _ (Hhrb'.out _ b0) hl').mono ?_
  rintro e w5 ⟨q4, rfl, e4, o4, _, _, hb⟩
  replace A0 := A0.below hb
  replace A1 := A1.below hb
  replace X0 := X0.below hb
  replace o3 := cluK.own_out (F := []) o3 (Out.of_below hb) (fun _ _ => by simp)
  replace b0 := b0.trans (hb.mono b0.size)
  clear hb
  have hl4 : CluQ.n q4 ≤ 1048576 := by rw [Hhqn'.out q4 e4]; exact hl'
  have hi4 := fun w h h' => HI3.out q4 e4 w h h' hl4
  have he4 := fun q' hq' w h h' => Hheq'.out q4 q' e4 hq' w h h' hl4
  obtain ⟨vo4, ord4, vm4, mem4⟩ := q4
  obtain ⟨a04, k04, rfl⟩ : ∃ a c, vo4 = .slice a ord4.length c := o4.1.shape
  obtain ⟨a14, k14, rfl⟩ : ∃ a c, vm4 = .slice a mem4.length c := o4.2.shape
  dsimp only at hi4 he4
  have HI4 : Hid _ := hi4
  have HE4 : Hid _ := he4
  clear hi4 he4
  have Y0 := Blk.new w5 31 #[.slice a04 ord4.length k04, .slice a14 mem4.length k14]
  have hb : Below w5.heap.size w5 (w5.alloc (.cells #[.slice a04 ord4.length k04, .slice a14 mem4.length k14] 31)) := by go_grown
  replace A0 := A0.below hb
  replace A1 := A1.below hb
  replace X0 := X0.below hb
  replace o3 := cluK.own_out (F := []) o3 (Out.of_below hb) (fun _ _ => by simp)
  replace o4 := cluK.own_out (F := []) o4 (Out.of_below hb) (fun _ _ => by simp)
  replace b0 := b0.trans (hb.mono b0.size)
  clear hb
  obtain ⟨p0, p1⟩ := X0.cel2
  obtain ⟨r0, r1⟩ := Y0.cel2
  go_wp2_with fail
  clear p0 p1
  clear r0 r1
  generalize w5.alloc (.cells #[.slice a04 ord4.length k04, .slice a14 mem4.length k14] 31) = W5 at *
  refine (HI4.out _ (cluK.own_rd o3) (cluK.own_rd o4)).mono ?_
  rintro e w6 ⟨rfl, hb⟩
  replace A0 := A0.below hb
  replace A1 := A1.below hb
  replace X0 := X0.below hb
  replace Y0 := Y0.below hb
  replace o3 := cluK.own_out (F := []) o3 (Out.of_below hb) (fun _ _ => by simp)
  replace o4 := cluK.own_out (F := []) o4 (Out.of_below hb) (fun _ _ => by simp)
  replace b0 := b0.trans (hb.mono b0.size)
  clear hb
  clear HI3 HI4
  have hne : (D != D) = false := by simp
  go_wp2_with fail
  clear hne
  have hW : Below w6.heap.size w6 w6.drew := (Below.refl _ _).drew
  have hnn : Nonempty (Lat w6) := ⟨⟨w6, Below.refl _ _⟩⟩
  obtain ⟨ff0, ff1⟩ := A0.lts2
  obtain ⟨gg0, gg1⟩ := X0.lts2
  refine text_begin (S := fun w' => ∃ u : Lat w6, w' = u.val) (by kernel_rfl) ?_
  refine sgr [(0, 2)] 3 (by kernel_rfl) ⟨⟨_, hW⟩, rfl⟩ ?_
  simp only [pkE]
  repeat go_big_quiet_step (fail)
  refine wpQuiet_nil ?_
  refine cla 2 (some 37) 9 #[.agg #[.slice a0 ord.length k0, .slice a1 mem.length k1]] 2 (by kernel_rfl) ?_
  refine (Hhto.out _ (Hhrb.out _ (b0.trans (hW.mono b0.size))) hl).mono ?_
  rintro e w9 ⟨q9, rfl, e9, o9, _, _, hb9⟩
  replace hW := hW.trans (hb9.mono hW.size)
  clear hb9
  refine ⟨_, rfl, ⟨⟨_, hW⟩, rfl⟩, ?_⟩
  simp only [Act.put, pjE]
  refine cla 3 (some 38) 11 #[.agg #[.slice a03 ord3.length k03, .slice a13 mem3.length k13], .agg #[q9.vo, q9.vm]] 1 (by kernel_rfl) ?_
  refine (HE3.out q9 e9 _ (cluK.rd_below (cluK.own_rd o3) hW) (cluK.own_rd o9)).mono ?_
  rintro e wz ⟨rfl, hb9⟩
  replace hW := hW.trans (hb9.mono hW.size)
  clear hb9
  refine ⟨_, rfl, ⟨⟨_, hW⟩, rfl⟩, ?_⟩
  simp only [Act.put, pjE]
  refine sgr [(4, 1)] 0 (by kernel_rfl) ⟨⟨_, hW⟩, rfl⟩ ?_
  simp only [pkE]
  repeat go_big_quiet_step (fail)
  refine wpQuiet_nil ?_
  refine text_end (by kernel_rfl) ?_
  clear hnn ff0 ff1 gg0 gg1
  clear o9 e9
  replace A0 := A0.below hW
  replace A1 := A1.below hW
  replace X0 := X0.below hW
  replace Y0 := Y0.below hW
  replace o3 := cluK.own_out (F := []) o3 (Out.of_below hW) (fun _ _ => by simp)
  replace o4 := cluK.own_out (F := []) o4 (Out.of_below hW) (fun _ _ => by simp)
  replace b0 := b0.trans (hW.mono b0.size)
  clear hW
  go_wp2_with fail
  have hW : Below wz.heap.size wz wz.drew := (Below.refl _ _).drew
  have hnn : Nonempty (Lat wz) := ⟨⟨wz, Below.refl _ _⟩⟩
  obtain ⟨ff0, ff1⟩ := A1.lts2
  obtain ⟨gg0, gg1⟩ := Y0.lts2
  refine text_begin (S := fun w' => ∃ u : Lat wz, w' = u.val) (by kernel_rfl) ?_
  refine sgr [(0, 2)] 3 (by kernel_rfl) ⟨⟨_, hW⟩, rfl⟩ ?_
  simp only [pkE]
  repeat go_big_quiet_step (fail)
  refine wpQuiet_nil ?_
  refine cla 2 (some 42) 9 #[.agg #[.slice a0' ord'.length k0', .slice a1' mem'.length k1']] 2 (by kernel_rfl) ?_
  refine (Hhto'.out _ (Hhrb'.out _ (b0.trans (hW.mono b0.size))) hl').mono ?_
  rintro e w9 ⟨q9, rfl, e9, o9, _, _, hb9⟩
  replace hW := hW.trans (hb9.mono hW.size)
  clear hb9
  refine ⟨_, rfl, ⟨⟨_, hW⟩, rfl⟩, ?_⟩
  simp only [Act.put, pjE]
  refine cla 3 (some 43) 11 #[.agg #[.slice a04 ord4.length k04, .slice a14 mem4.length k14], .agg #[q9.vo, q9.vm]] 1 (by kernel_rfl) ?_
  refine (HE4.out q9 e9 _ (cluK.rd_below (cluK.own_rd o4) hW) (cluK.own_rd o9)).mono ?_
  rintro e w9 ⟨rfl, hb9⟩
  replace hW := hW.trans (hb9.mono hW.size)
  clear hb9
  refine ⟨_, rfl, ⟨⟨_, hW⟩, rfl⟩, ?_⟩
  simp only [Act.put, pjE]
  refine sgr [(4, 1)] 0 (by kernel_rfl) ⟨⟨_, hW⟩, rfl⟩ ?_
  simp only [pkE]
  repeat go_big_quiet_step (fail)
  refine wpQuiet_nil ?_
  refine text_end (by kernel_rfl) ?_
  clear hnn ff0 ff1 gg0 gg1
  replace b0 := b0.trans (hW.mono b0.size)
  clear o9 e9 o3 o4 A0 A1 X0 Y0 hW
  go_wp2
  go_ret
  exact ⟨rfl, b0⟩

end Go.Proofs.Ytkkdjgiencilbaa

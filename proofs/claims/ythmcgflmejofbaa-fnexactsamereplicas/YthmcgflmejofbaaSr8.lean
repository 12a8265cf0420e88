/- The law FnExactSameReplicas, walked: at every two replicas that can be read it answers true, and it writes into nothing that was there. -/
import Derived.Test.YthmcgflmejofbaaSr9b
import Derived.Test.YthmcgflmejofbaaK9r
import Derived.Test.YthmcgflmejofbaaBlk5
namespace Go.Proofs.Ythmcgflmejofbaa
open Go.RowKit
open Go.BigFrame
set_option linter.unusedVariables false
set_option linter.unusedSimpArgs false

theorem uss_n {ps qs : List USQ} (h : ps.map USQ.e = qs.map USQ.e) : ps.length + nmL USQ.n ps = qs.length + nmL USQ.n qs := by
  have e : ∀ l : List USQ, nmL USQ.n l = nmL List.length (l.map USQ.e) := fun l => by simp only [nmL, List.map_map]; rfl
  have hl : ps.length = qs.length := by simpa using congrArg List.length h
  rw [e, e, h, hl]
theorem txq_n {ps qs : List TxnQ} (h : ps.map TxnQ.e = qs.map TxnQ.e) : ps.length + nmL TxnQ.n ps = qs.length + nmL TxnQ.n qs := by
  have e : ∀ l : List TxnQ, nmL TxnQ.n l = nmL TxnD.n (l.map TxnQ.e) := fun l => by simp only [nmL, List.map_map]; rfl
  have hl : ps.length = qs.length := by simpa using congrArg List.length h
  rw [e, e, h, hl]
theorem rep_n {p q : RepQ} (h : p.e = q.e) : p.n = q.n := by
  simp only [RepQ.e, RepE.mk.injEq] at h
  obtain ⟨h0, h1, h2, h3, h4⟩ := h
  simp only [RepQ.n]
  have a0 := txq_n h0
  have a2 := txq_n h2
  have a3 := uss_n h3
  rw [h1, h4]
  omega
theorem specSameI_e (p q : RepQ) (x y : RepE) (hx : p.e = x) (hy : q.e = y) (w : World) (h : repK.rd w p) (h' : repK.rd w q) (hl : p.n ≤ 1048576) (hl' : q.n ≤ 1048576) :
    Calls Try.prog 5 #[.agg #[p.vd, p.vb, p.vt, p.vu, p.vn], .agg #[q.vd, q.vb, q.vt, q.vu, q.vn]] w fun e w' => e = .returned (.bool (sameRep x y)) ∧ Below w.heap.size w w' := by
  rw [← hx, ← hy]
  exact specSameReplicas_any p q w h h' hl hl'
theorem implSameI_e (p q : RepQ) (x y : RepE) (hx : p.e = x) (hy : q.e = y) (w : World) (h : repK.rd w p) (h' : repK.rd w q) (hl : p.n ≤ 1048576) (hl' : q.n ≤ 1048576) :
    Calls Try.prog 7 #[.agg #[p.vd, p.vb, p.vt, p.vu, p.vn], .agg #[q.vd, q.vb, q.vt, q.vu, q.vn]] w fun e w' => e = .returned (.bool (sameRep x y)) ∧ Below w.heap.size w w' := by
  rw [← hx, ← hy]
  exact implSameReplicas_any p q w h h' hl hl'

set_option maxHeartbeats 8000000 in
theorem sameReplicasLaw (p p' : RepQ) (w : World) (h : repK.rd w p) (hn : p.wf) (h' : repK.rd w p') (hn' : p'.wf) :
    Calls Try.prog 3 #[.agg #[p.vd, p.vb, p.vt, p.vu, p.vn], .agg #[p'.vd, p'.vb, p'.vt, p'.vu, p'.vn]] w fun e w' => e = .returned (.bool true) ∧ Below w.heap.size w w' := by
  have hsz := fun w h => szReplica_k p 1048576 w h hn (by omega) (by omega)
  have hsz' := fun c w h h0 h1 => szReplica_k p' c w h hn' h0 h1
  have hto := fun w h hl => toReplica_k p w h hl
  have hto' := fun w h hl => toReplica_k p' w h hl
  have hsp := fun q q' (hq : RepQ.e q = p.e) (hq' : RepQ.e q' = p'.e) w h h' hl hl' => specSameI_e q q' _ _ hq hq' w h h' hl hl'
  have him := fun q q' (hq : RepQ.e q = p.e) (hq' : RepQ.e q' = p'.e) w h h' hl hl' => implSameI_e q q' _ _ hq hq' w h h' hl hl'
  have hqn : ∀ q : RepQ, q.e = p.e → q.n = p.n := fun q hq => rep_n hq
  have hqn' : ∀ q : RepQ, q.e = p'.e → q.n = p'.n := fun q hq => rep_n hq
  have heq := fun (q q' : RepQ) (hq : q.e = p.e) (hq' : q'.e = p.e) w h h' hl => eqReplica_k q q' w h h' (hq.trans hq'.symm) hl
  have heq' := fun (q q' : RepQ) (hq : q.e = p'.e) (hq' : q'.e = p'.e) w h h' hl => eqReplica_k q q' w h h' (hq.trans hq'.symm) hl
  have hrb := fun (w' : World) hb => repK.rd_below (w' := w') h hb
  have hrb' := fun (w' : World) hb => repK.rd_below (w' := w') h' hb
  generalize hpe : p.e = pe at *
  generalize hpn : p.n = pn at *
  generalize hpe' : p'.e = pe' at *
  generalize hpn' : p'.n = pn' at *
  generalize sameRep pe pe' = E at hsp him
  obtain ⟨vd, done, vb, base, vt, tent, vu, undos, vn, now⟩ := p
  obtain ⟨da, dk, rfl⟩ : ∃ a c, vd = .slice a done.length c := h.1.shape
  obtain ⟨ba, bk, rfl⟩ : ∃ a c, vb = .slice a base.length c := h.2.1.shape
  obtain ⟨ta, tk, rfl⟩ : ∃ a c, vt = .slice a tent.length c := h.2.2.1.shape
  obtain ⟨ua, uk, rfl⟩ : ∃ a c, vu = .slice a undos.length c := h.2.2.2.1.shape
  obtain ⟨na, nk, rfl⟩ : ∃ a c, vn = .slice a now.length c := h.2.2.2.2.shape
  dsimp only at hsz hto hrb
  obtain ⟨vd', done', vb', base', vt', tent', vu', undos', vn', now'⟩ := p'
  obtain ⟨da', dk', rfl⟩ : ∃ a c, vd' = .slice a done'.length c := h'.1.shape
  obtain ⟨ba', bk', rfl⟩ : ∃ a c, vb' = .slice a base'.length c := h'.2.1.shape
  obtain ⟨ta', tk', rfl⟩ : ∃ a c, vt' = .slice a tent'.length c := h'.2.2.1.shape
  obtain ⟨ua', uk', rfl⟩ : ∃ a c, vu' = .slice a undos'.length c := h'.2.2.2.1.shape
  obtain ⟨na', nk', rfl⟩ : ∃ a c, vn' = .slice a now'.length c := h'.2.2.2.2.shape
  dsimp only at hsz' hto' hrb'
  have b0 : Below w.heap.size w ((w.alloc (.cells #[.slice da done.length dk, .slice ba base.length bk, .slice ta tent.length tk, .slice ua undos.length uk, .slice na now.length nk] 26)).alloc (.cells #[.slice da' done'.length dk', .slice ba' base'.length bk', .slice ta' tent'.length tk', .slice ua' undos'.length uk', .slice na' now'.length nk'] 26)) := by go_grown
  have A0 := Blk.new w 26 #[.slice da done.length dk, .slice ba base.length bk, .slice ta tent.length tk, .slice ua undos.length uk, .slice na now.length nk]
  have bb : Below (w.alloc (.cells #[.slice da done.length dk, .slice ba base.length bk, .slice ta tent.length tk, .slice ua undos.length uk, .slice na now.length nk] 26)).heap.size (w.alloc (.cells #[.slice da done.length dk, .slice ba base.length bk, .slice ta tent.length tk, .slice ua undos.length uk, .slice na now.length nk] 26)) ((w.alloc (.cells #[.slice da done.length dk, .slice ba base.length bk, .slice ta tent.length tk, .slice ua undos.length uk, .slice na now.length nk] 26)).alloc (.cells #[.slice da' done'.length dk', .slice ba' base'.length bk', .slice ta' tent'.length tk', .slice ua' undos'.length uk', .slice na' now'.length nk'] 26)) := by go_grown
  replace A0 := A0.below bb
  clear bb
  have A1 := Blk.new (w.alloc (.cells #[.slice da done.length dk, .slice ba base.length bk, .slice ta tent.length tk, .slice ua undos.length uk, .slice na now.length nk] 26)) 26 #[.slice da' done'.length dk', .slice ba' base'.length bk', .slice ta' tent'.length tk', .slice ua' undos'.length uk', .slice na' now'.length nk']
  rw [World.size_alloc] at A1
  have p0 := A0.cell 0 _ rfl
  have p1 := A0.cell 1 _ rfl
  have p2 := A0.cell 2 _ rfl
  have p3 := A0.cell 3 _ rfl
  have p4 := A0.cell 4 _ rfl
  go_enter Try.func3, Try.ntmps3
  go_wp2_with fail
  generalize (w.alloc (.cells #[.slice da done.length dk, .slice ba base.length bk, .slice ta tent.length tk, .slice ua undos.length uk, .slice na now.length nk] 26)).alloc (.cells #[.slice da' done'.length dk', .slice ba' base'.length bk', .slice ta' tent'.length tk', .slice ua' undos'.length uk', .slice na' now'.length nk'] 26) = W at *
  clear p0 p1 p2 p3 p4
  refine (hsz W (hrb W b0)).mono ?_
  rintro e w1 ⟨r, rfl, hr, hb⟩
  replace A0 := A0.below hb
  replace A1 := A1.below hb
  replace b0 := b0.trans (hb.mono b0.size)
  clear hsz hb
  by_cases hneg : r < 0
  · go_wp2
    go_ret
    exact ⟨rfl, b0⟩
  have hl : (pn : Int) + r = 1048576 := hr (by omega)
  clear hr
  have p0 := A1.cell 0 _ rfl
  have p1 := A1.cell 1 _ rfl
  have p2 := A1.cell 2 _ rfl
  have p3 := A1.cell 3 _ rfl
  have p4 := A1.cell 4 _ rfl
  go_wp2_with fail
  clear p0 p1 p2 p3 p4
  refine (hsz' r w1 (hrb' w1 b0) (by omega) (by omega)).mono ?_
  rintro e w2 ⟨r', rfl, hr, hb⟩
  replace A0 := A0.below hb
  replace A1 := A1.below hb
  replace b0 := b0.trans (hb.mono b0.size)
  clear hsz' hb
  by_cases hneg' : r' < 0
  · go_wp2
    go_ret
    exact ⟨rfl, b0⟩
  have hl' : (pn' : Int) + r' = r := hr (by omega)
  clear hr
  replace hl' : pn' ≤ 1048576 := by omega
  replace hl : pn ≤ 1048576 := by omega
  go_wp2_with fail
  clear hneg hneg'
  have hW : Below w2.heap.size w2 w2.drew := (Below.refl _ _).drew
  have hnn : Nonempty (Lat w2) := ⟨⟨w2, Below.refl _ _⟩⟩
  have k0 := A0.lat 0 _ rfl
  have k1 := A0.lat 1 _ rfl
  have k2 := A0.lat 2 _ rfl
  have k3 := A0.lat 3 _ rfl
  have k4 := A0.lat 4 _ rfl
  have l0 := A1.lat 0 _ rfl
  have l1 := A1.lat 1 _ rfl
  have l2 := A1.lat 2 _ rfl
  have l3 := A1.lat 3 _ rfl
  have l4 := A1.lat 4 _ rfl
  refine text_begin (S := fun w' => ∃ u : Lat w2, w' = u.val) (by kernel_rfl) ?_
  refine seg_range [(0, 1), (2, 1)] 4 (by kernel_rfl) (by kernel_rfl) (by kernel_rfl) (by kernel_rfl) (by kernel_rfl) ⟨⟨_, hW⟩, rfl⟩ ?_
  simp only [pickR, List.toList_toArray, List.flatMap_cons, List.flatMap_nil, List.drop_succ_cons, List.drop_zero, List.take_succ_cons, List.take_zero, List.cons_append, List.nil_append, List.append_nil]
  repeat go_big_quiet_step (fail)
  refine wpQuiet_nil ?_
  refine call_at 1 (some 21) 6 #[.agg #[.slice da done.length dk, .slice ba base.length bk, .slice ta tent.length tk, .slice ua undos.length uk, .slice na now.length nk]] 3 (by kernel_rfl) (by kernel_rfl) (by kernel_rfl) (by kernel_rfl) (by kernel_rfl) ?_
  refine (hto _ (hrb _ (b0.trans (hW.mono b0.size))) hl).mono ?_
  rintro e w9 ⟨q1, rfl, e1, o1, n1, g1, hb9⟩
  replace hW := hW.trans (hb9.mono hW.size)
  clear n1 g1
  have z1 := repK.own_rd o1
  clear o1
  clear hb9
  refine ⟨_, rfl, ⟨⟨_, hW⟩, rfl⟩, ?_⟩
  simp only [Act.put, List.setIfInBounds_toArray, List.set_cons_zero, List.set_cons_succ]
  refine call_at 3 (some 23) 6 #[.agg #[.slice da' done'.length dk', .slice ba' base'.length bk', .slice ta' tent'.length tk', .slice ua' undos'.length uk', .slice na' now'.length nk']] 2 (by kernel_rfl) (by kernel_rfl) (by kernel_rfl) (by kernel_rfl) (by kernel_rfl) ?_
  refine (hto' _ (hrb' _ (b0.trans (hW.mono b0.size))) hl').mono ?_
  rintro e w9 ⟨q2, rfl, e2, o2, n2, g2, hb9⟩
  replace hW := hW.trans (hb9.mono hW.size)
  clear n2 g2
  have z2 := repK.own_rd o2
  clear o2
  replace z1 := repK.rd_below z1 hb9
  clear hb9
  refine ⟨_, rfl, ⟨⟨_, hW⟩, rfl⟩, ?_⟩
  simp only [Act.put, List.setIfInBounds_toArray, List.set_cons_zero, List.set_cons_succ]
  refine call_at 4 (some 24) 5 #[.agg #[q1.vd, q1.vb, q1.vt, q1.vu, q1.vn], .agg #[q2.vd, q2.vb, q2.vt, q2.vu, q2.vn]] 1 (by kernel_rfl) (by kernel_rfl) (by kernel_rfl) (by kernel_rfl) (by kernel_rfl) ?_
  refine (hsp q1 q2 e1 e2 _ z1 z2 (by rw [hqn q1 e1]; exact hl) (by rw [hqn' q2 e2]; exact hl')).mono ?_
  rintro e w9 ⟨rfl, hb9⟩
  replace hW := hW.trans (hb9.mono hW.size)
  clear hb9
  refine ⟨_, rfl, ⟨⟨_, hW⟩, rfl⟩, ?_⟩
  simp only [Act.put, List.setIfInBounds_toArray, List.set_cons_zero, List.set_cons_succ]
  refine seg_range [(5, 1)] 0 (by kernel_rfl) (by kernel_rfl) (by kernel_rfl) (by kernel_rfl) (by kernel_rfl) ⟨⟨_, hW⟩, rfl⟩ ?_
  simp only [pickR, List.toList_toArray, List.flatMap_cons, List.flatMap_nil, List.drop_succ_cons, List.drop_zero, List.take_succ_cons, List.take_zero, List.cons_append, List.nil_append, List.append_nil]
  repeat go_big_quiet_step (fail)
  refine wpQuiet_nil ?_
  refine text_end (by kernel_rfl) ?_
  clear k0 k1 k2 k3 k4 l0 l1 l2 l3 l4
  replace A0 := A0.below hW
  replace A1 := A1.below hW
  replace b0 := b0.trans (hW.mono b0.size)
  clear hW hnn hsp z1 z2 e1 e2
  have p0 := A0.cell 0 _ rfl
  have p1 := A0.cell 1 _ rfl
  have p2 := A0.cell 2 _ rfl
  have p3 := A0.cell 3 _ rfl
  have p4 := A0.cell 4 _ rfl
  go_wp2_with fail
  clear p0 p1 p2 p3 p4
  refine (hto _ (hrb _ b0) hl).mono ?_
  rintro e w4 ⟨q3, rfl, e3, o3, n3, g3, hb⟩
  replace A0 := A0.below hb
  replace A1 := A1.below hb
  replace b0 := b0.trans (hb.mono b0.size)
  clear hb n3 g3
  have hi3 := fun q' hq' w h h' hl' => him q3 q' e3 hq' w h h' (by rw [hqn q3 e3]; exact hl) hl'
  have he3 := fun q' hq' w h h' => heq q3 q' e3 hq' w h h' (by rw [hqn q3 e3]; exact hl)
  have r3 := repK.own_rd o3
  have rb3 := fun (w' : World) hb => repK.rd_below (w' := w') r3 hb
  clear o3 heq him
  obtain ⟨vd3, done3, vb3, base3, vt3, tent3, vu3, undos3, vn3, now3⟩ := q3
  obtain ⟨da3, dk3, rfl⟩ : ∃ a c, vd3 = .slice a done3.length c := r3.1.shape
  obtain ⟨ba3, bk3, rfl⟩ : ∃ a c, vb3 = .slice a base3.length c := r3.2.1.shape
  obtain ⟨ta3, tk3, rfl⟩ : ∃ a c, vt3 = .slice a tent3.length c := r3.2.2.1.shape
  obtain ⟨ua3, uk3, rfl⟩ : ∃ a c, vu3 = .slice a undos3.length c := r3.2.2.2.1.shape
  obtain ⟨na3, nk3, rfl⟩ : ∃ a c, vn3 = .slice a now3.length c := r3.2.2.2.2.shape
  dsimp only at hi3 he3 rb3
  have X0 := Blk.new w4 33 #[.slice da3 done3.length dk3, .slice ba3 base3.length bk3, .slice ta3 tent3.length tk3, .slice ua3 undos3.length uk3, .slice na3 now3.length nk3]
  have bx : Below w4.heap.size w4 (w4.alloc (.cells #[.slice da3 done3.length dk3, .slice ba3 base3.length bk3, .slice ta3 tent3.length tk3, .slice ua3 undos3.length uk3, .slice na3 now3.length nk3] 33)) := by go_grown
  replace r3 := rb3 _ bx
  clear rb3
  have rb3 := fun (w' : World) hb => repK.rd_below (w' := w') r3 hb
  replace A0 := A0.below bx
  replace A1 := A1.below bx
  replace b0 := b0.trans (bx.mono b0.size)
  have p0 := A1.cell 0 _ rfl
  have p1 := A1.cell 1 _ rfl
  have p2 := A1.cell 2 _ rfl
  have p3 := A1.cell 3 _ rfl
  have p4 := A1.cell 4 _ rfl
  clear bx
  go_wp2_with fail
  clear p0 p1 p2 p3 p4
  generalize w4.alloc (.cells #[.slice da3 done3.length dk3, .slice ba3 base3.length bk3, .slice ta3 tent3.length tk3, .slice ua3 undos3.length uk3, .slice na3 now3.length nk3] 33) = W4 at *
  refine (hto' W4 (hrb' W4 b0) hl').mono ?_
  rintro e w5 ⟨q4, rfl, e4, o4, n4, g4, hb⟩
  replace A0 := A0.below hb
  replace A1 := A1.below hb
  replace X0 := X0.below hb
  replace b0 := b0.trans (hb.mono b0.size)
  replace r3 := rb3 _ hb
  clear hb n4 g4 rb3
  have rb3 := fun (w' : World) hb => repK.rd_below (w' := w') r3 hb
  have hi4 := fun w h h' => hi3 q4 e4 w h h' (by rw [hqn' q4 e4]; exact hl')
  have he4 := fun q' hq' w h h' => heq' q4 q' e4 hq' w h h' (by rw [hqn' q4 e4]; exact hl')
  have r4 := repK.own_rd o4
  have rb4 := fun (w' : World) hb => repK.rd_below (w' := w') r4 hb
  clear o4 heq' hi3
  obtain ⟨vd4, done4, vb4, base4, vt4, tent4, vu4, undos4, vn4, now4⟩ := q4
  obtain ⟨da4, dk4, rfl⟩ : ∃ a c, vd4 = .slice a done4.length c := r4.1.shape
  obtain ⟨ba4, bk4, rfl⟩ : ∃ a c, vb4 = .slice a base4.length c := r4.2.1.shape
  obtain ⟨ta4, tk4, rfl⟩ : ∃ a c, vt4 = .slice a tent4.length c := r4.2.2.1.shape
  obtain ⟨ua4, uk4, rfl⟩ : ∃ a c, vu4 = .slice a undos4.length c := r4.2.2.2.1.shape
  obtain ⟨na4, nk4, rfl⟩ : ∃ a c, vn4 = .slice a now4.length c := r4.2.2.2.2.shape
  dsimp only at hi4 he4 rb4
  have X1 := Blk.new w5 33 #[.slice da4 done4.length dk4, .slice ba4 base4.length bk4, .slice ta4 tent4.length tk4, .slice ua4 undos4.length uk4, .slice na4 now4.length nk4]
  have bx : Below w5.heap.size w5 (w5.alloc (.cells #[.slice da4 done4.length dk4, .slice ba4 base4.length bk4, .slice ta4 tent4.length tk4, .slice ua4 undos4.length uk4, .slice na4 now4.length nk4] 33)) := by go_grown
  replace r3 := rb3 _ bx
  replace r4 := rb4 _ bx
  clear rb3 rb4
  replace A0 := A0.below bx
  replace A1 := A1.below bx
  replace X0 := X0.below bx
  replace b0 := b0.trans (bx.mono b0.size)
  have p0 := X0.cell 0 _ rfl
  have p1 := X0.cell 1 _ rfl
  have p2 := X0.cell 2 _ rfl
  have p3 := X0.cell 3 _ rfl
  have p4 := X0.cell 4 _ rfl
  clear bx
  go_wp2_with fail
  clear p0 p1 p2 p3 p4
  generalize w5.alloc (.cells #[.slice da4 done4.length dk4, .slice ba4 base4.length bk4, .slice ta4 tent4.length tk4, .slice ua4 undos4.length uk4, .slice na4 now4.length nk4] 33) = W5 at *
  have rb3 := fun (w' : World) hb => repK.rd_below (w' := w') r3 hb
  have rb4 := fun (w' : World) hb => repK.rd_below (w' := w') r4 hb
  refine (hi4 W5 r3 r4).mono ?_
  rintro e w6 ⟨rfl, hb⟩
  replace A0 := A0.below hb
  replace A1 := A1.below hb
  replace X0 := X0.below hb
  replace X1 := X1.below hb
  replace b0 := b0.trans (hb.mono b0.size)
  replace r3 := rb3 _ hb
  replace r4 := rb4 _ hb
  clear hb rb3 rb4 hi4
  have hne : (E != E) = false := by simp
  go_wp2_with fail
  have hW : Below w6.heap.size w6 w6.drew := (Below.refl _ _).drew
  have hnn : Nonempty (Lat w6) := ⟨⟨w6, Below.refl _ _⟩⟩
  have k0 := A0.lat 0 _ rfl
  have k1 := A0.lat 1 _ rfl
  have k2 := A0.lat 2 _ rfl
  have k3 := A0.lat 3 _ rfl
  have k4 := A0.lat 4 _ rfl
  have l0 := X0.lat 0 _ rfl
  have l1 := X0.lat 1 _ rfl
  have l2 := X0.lat 2 _ rfl
  have l3 := X0.lat 3 _ rfl
  have l4 := X0.lat 4 _ rfl
  refine text_begin (S := fun w' => ∃ u : Lat w6, w' = u.val) (by kernel_rfl) ?_
  refine seg_range [(0, 2)] 3 (by kernel_rfl) (by kernel_rfl) (by kernel_rfl) (by kernel_rfl) (by kernel_rfl) ⟨⟨_, hW⟩, rfl⟩ ?_
  simp only [pickR, List.toList_toArray, List.flatMap_cons, List.flatMap_nil, List.drop_succ_cons, List.drop_zero, List.take_succ_cons, List.take_zero, List.cons_append, List.nil_append, List.append_nil]
  repeat go_big_quiet_step (fail)
  refine wpQuiet_nil ?_
  refine call_at 2 (some 37) 6 #[.agg #[.slice da done.length dk, .slice ba base.length bk, .slice ta tent.length tk, .slice ua undos.length uk, .slice na now.length nk]] 2 (by kernel_rfl) (by kernel_rfl) (by kernel_rfl) (by kernel_rfl) (by kernel_rfl) ?_
  refine (hto _ (hrb _ (b0.trans (hW.mono b0.size))) hl).mono ?_
  rintro e w9 ⟨q9, rfl, e9, o9, n9, g9, hb9⟩
  replace hW := hW.trans (hb9.mono hW.size)
  clear n9 g9
  clear hb9
  refine ⟨_, rfl, ⟨⟨_, hW⟩, rfl⟩, ?_⟩
  simp only [Act.put, List.setIfInBounds_toArray, List.set_cons_zero, List.set_cons_succ]
  refine call_at 3 (some 38) 8 #[.agg #[.slice da3 done3.length dk3, .slice ba3 base3.length bk3, .slice ta3 tent3.length tk3, .slice ua3 undos3.length uk3, .slice na3 now3.length nk3], .agg #[q9.vd, q9.vb, q9.vt, q9.vu, q9.vn]] 1 (by kernel_rfl) (by kernel_rfl) (by kernel_rfl) (by kernel_rfl) (by kernel_rfl) ?_
  refine (he3 q9 e9 _ (repK.rd_below r3 hW) (repK.own_rd o9)).mono ?_
  rintro e w9 ⟨rfl, hb9⟩
  replace hW := hW.trans (hb9.mono hW.size)
  clear hb9
  refine ⟨_, rfl, ⟨⟨_, hW⟩, rfl⟩, ?_⟩
  simp only [Act.put, List.setIfInBounds_toArray, List.set_cons_zero, List.set_cons_succ]
  refine seg_range [(4, 1)] 0 (by kernel_rfl) (by kernel_rfl) (by kernel_rfl) (by kernel_rfl) (by kernel_rfl) ⟨⟨_, hW⟩, rfl⟩ ?_
  simp only [pickR, List.toList_toArray, List.flatMap_cons, List.flatMap_nil, List.drop_succ_cons, List.drop_zero, List.take_succ_cons, List.take_zero, List.cons_append, List.nil_append, List.append_nil]
  repeat go_big_quiet_step (fail)
  refine wpQuiet_nil ?_
  refine text_end (by kernel_rfl) ?_
  clear k0 k1 k2 k3 k4 l0 l1 l2 l3 l4 he3 r3 o9 e9
  have rb4 := fun (w' : World) hb => repK.rd_below (w' := w') r4 hb
  replace r4 := rb4 _ hW
  replace A0 := A0.below hW
  replace A1 := A1.below hW
  replace X1 := X1.below hW
  replace b0 := b0.trans (hW.mono b0.size)
  clear hW hnn rb4 X0 A0
  go_wp2_with fail
  have hW : Below w9.heap.size w9 w9.drew := (Below.refl _ _).drew
  have hnn : Nonempty (Lat w9) := ⟨⟨w9, Below.refl _ _⟩⟩
  have k0 := A1.lat 0 _ rfl
  have k1 := A1.lat 1 _ rfl
  have k2 := A1.lat 2 _ rfl
  have k3 := A1.lat 3 _ rfl
  have k4 := A1.lat 4 _ rfl
  have l0 := X1.lat 0 _ rfl
  have l1 := X1.lat 1 _ rfl
  have l2 := X1.lat 2 _ rfl
  have l3 := X1.lat 3 _ rfl
  have l4 := X1.lat 4 _ rfl
  refine text_begin (S := fun w' => ∃ u : Lat w9, w' = u.val) (by kernel_rfl) ?_
  refine seg_range [(0, 2)] 3 (by kernel_rfl) (by kernel_rfl) (by kernel_rfl) (by kernel_rfl) (by kernel_rfl) ⟨⟨_, hW⟩, rfl⟩ ?_
  simp only [pickR, List.toList_toArray, List.flatMap_cons, List.flatMap_nil, List.drop_succ_cons, List.drop_zero, List.take_succ_cons, List.take_zero, List.cons_append, List.nil_append, List.append_nil]
  repeat go_big_quiet_step (fail)
  refine wpQuiet_nil ?_
  refine call_at 2 (some 42) 6 #[.agg #[.slice da' done'.length dk', .slice ba' base'.length bk', .slice ta' tent'.length tk', .slice ua' undos'.length uk', .slice na' now'.length nk']] 2 (by kernel_rfl) (by kernel_rfl) (by kernel_rfl) (by kernel_rfl) (by kernel_rfl) ?_
  refine (hto' _ (hrb' _ (b0.trans (hW.mono b0.size))) hl').mono ?_
  rintro e w9 ⟨q9, rfl, e9, o9, n9, g9, hb9⟩
  replace hW := hW.trans (hb9.mono hW.size)
  clear n9 g9
  clear hb9
  refine ⟨_, rfl, ⟨⟨_, hW⟩, rfl⟩, ?_⟩
  simp only [Act.put, List.setIfInBounds_toArray, List.set_cons_zero, List.set_cons_succ]
  refine call_at 3 (some 43) 8 #[.agg #[.slice da4 done4.length dk4, .slice ba4 base4.length bk4, .slice ta4 tent4.length tk4, .slice ua4 undos4.length uk4, .slice na4 now4.length nk4], .agg #[q9.vd, q9.vb, q9.vt, q9.vu, q9.vn]] 1 (by kernel_rfl) (by kernel_rfl) (by kernel_rfl) (by kernel_rfl) (by kernel_rfl) ?_
  refine (he4 q9 e9 _ (repK.rd_below r4 hW) (repK.own_rd o9)).mono ?_
  rintro e w9 ⟨rfl, hb9⟩
  replace hW := hW.trans (hb9.mono hW.size)
  clear hb9
  refine ⟨_, rfl, ⟨⟨_, hW⟩, rfl⟩, ?_⟩
  simp only [Act.put, List.setIfInBounds_toArray, List.set_cons_zero, List.set_cons_succ]
  refine seg_range [(4, 1)] 0 (by kernel_rfl) (by kernel_rfl) (by kernel_rfl) (by kernel_rfl) (by kernel_rfl) ⟨⟨_, hW⟩, rfl⟩ ?_
  simp only [pickR, List.toList_toArray, List.flatMap_cons, List.flatMap_nil, List.drop_succ_cons, List.drop_zero, List.take_succ_cons, List.take_zero, List.cons_append, List.nil_append, List.append_nil]
  repeat go_big_quiet_step (fail)
  refine wpQuiet_nil ?_
  refine text_end (by kernel_rfl) ?_
  replace b0 := b0.trans (hW.mono b0.size)
  clear k0 k1 k2 k3 k4 l0 l1 l2 l3 l4 hW hnn hto hto' he4 hrb hrb' A1 X1 r4 o9
  go_wp2
  go_ret
  exact ⟨rfl, b0⟩

end Go.Proofs.Ythmcgflmejofbaa

/- The law FnExactGoOn, walked: at every instance that can be read and all numbers it answers true, and it writes into nothing that was there. -/
import Derived.Test.YtjnkldlkbjldcaaGreatDoorN7
namespace Go.Proofs.YtjnkldlkbjldcaaGreatDoor
open Go.RowKit
open Go.BigFrame
set_option linter.unusedVariables false
set_option maxRecDepth 100000
set_option linter.unusedSimpArgs false

theorem specGoOn_e (p : InstQ) (node round mask coin : Int) (x : InstE) (hx : p.e = x) (w : World) (h : instK.rd w p) (hl : p.n ≤ 1048576) :
    Calls Tryz.prog 39 #[.agg #[.bool p.has, p.vb, p.vr, p.vd], .int .i64 node, .int .i64 round, .int .i64 mask, .int .i64 coin] w fun e w' => ∃ q : InstQ, e = .returned (.agg (resC (goC x node round mask coin) (goZ x node round mask coin) (goD x node round mask coin) (goK x node round mask coin) (goV x node round mask coin) q)) ∧ q.e = goI x node round mask coin ∧ instK.own w' q ∧ (instK.foot q).Nodup ∧ (∀ k ∈ instK.foot q, w.heap.size ≤ k) ∧ Below w.heap.size w w' := by
  subst hx
  exact specGoOn_any p node round mask coin w h hl
theorem implGoOn_e (p : InstQ) (node round mask coin : Int) (x : InstE) (hx : p.e = x) (w : World) (hG : RulO w) (h : instK.rd w p) (hl : p.n ≤ 1048576) :
    Calls Tryz.prog 40 #[.agg #[.bool p.has, p.vb, p.vr, p.vd], .int .i64 node, .int .i64 round, .int .i64 mask, .int .i64 coin] w fun e w' => ∃ q : InstQ, e = .returned (.agg (resC (goC x node round mask coin) (goZ x node round mask coin) (goD x node round mask coin) (goK x node round mask coin) (goV x node round mask coin) q)) ∧ q.e = goI x node round mask coin ∧ instK.own w' q ∧ (instK.foot q).Nodup ∧ (∀ k ∈ instK.foot q, w.heap.size ≤ k) ∧ Below w.heap.size w w' := by
  subst hx
  exact implGoOn_any p node round mask coin w hG h hl

set_option maxHeartbeats 8000000 in
theorem goOnLaw (p : InstQ) (node round mask coin : Int) (w : World) (hG : RulO w) (h : instK.rd w p) (hn : p.wf) :
    Calls Tryz.prog 7 #[.agg #[.bool p.has, p.vb, p.vr, p.vd], .int .i64 node, .int .i64 round, .int .i64 mask, .int .i64 coin] w fun e w' => e = .returned (.bool true) ∧ Below w.heap.size w w' := by
  have hsz := fun w h => szInstance_k p 1048576 w h hn (by omega) (by omega)
  have hto := fun w h hl => toInstance_k p w h hl
  have hsp := fun q (hq : InstQ.e q = p.e) w h hl => specGoOn_e q node round mask coin _ hq w h hl
  have him := fun q (hq : InstQ.e q = p.e) w hG h hl => implGoOn_e q node round mask coin _ hq w hG h hl
  have hqn : ∀ q : InstQ, q.e = p.e → q.n = p.n := fun q hq => inst_n hq
  have hqs : Hid (∀ q : InstQ, q.e = goI p.e node round mask coin → p.n ≤ 1048576 → q.n ≤ 1048576) := fun q hq hp => goI_n hq hp
  have hrb := fun (w' : World) hb => instK.rd_below (w' := w') h hb
  generalize goC p.e node round mask coin = D at *
  generalize goI p.e node round mask coin = E at *
  generalize goZ p.e node round mask coin = K0 at *
  generalize goD p.e node round mask coin = K1 at *
  generalize goK p.e node round mask coin = K2 at *
  generalize goV p.e node round mask coin = K3 at *
  generalize hpe : p.e = pe at *
  generalize hpn : p.n = pn at *
  obtain ⟨has, vb, batch, vr, rounds, vd, dec⟩ := p
  obtain ⟨ba, bk, rfl⟩ : ∃ a c, vb = .slice a batch.length c := h.1.shape
  obtain ⟨va, vk, rfl⟩ : ∃ a c, vr = .slice a rounds.length c := h.2.1.shape
  obtain ⟨da, dk, rfl⟩ : ∃ a c, vd = .slice a dec.length c := h.2.2.shape
  dsimp only at hsz hto hrb
  have b0 : Below w.heap.size w (w.alloc (.cells #[.bool has, .slice ba batch.length bk, .slice va rounds.length vk, .slice da dec.length dk] 50)) := by go_grown
  have A0 := Blk.new w 50 #[.bool has, .slice ba batch.length bk, .slice va rounds.length vk, .slice da dec.length dk]
  go_enter Tryz.func7, Tryz.ntmps7
  go_wp2_with fail
  generalize w.alloc (.cells #[.bool has, .slice ba batch.length bk, .slice va rounds.length vk, .slice da dec.length dk] 50) = W at *
  refine (hsz W (hrb W b0)).mono ?_
  rintro e w1 ⟨r, rfl, hr, hb⟩
  replace A0 := A0.below hb
  replace b0 := b0.trans (hb.mono b0.size)
  clear hb
  clear hsz
  by_cases hneg : r < 0
  · go_wp2
    go_ret
    exact ⟨rfl, b0⟩
  have hl : (pn : Int) + r = 1048576 := hr (by omega)
  clear hr
  replace hl : pn ≤ 1048576 := by omega
  have p0 := A0.cell 0 _ rfl
  have p1 := A0.cell 1 _ rfl
  have p2 := A0.cell 2 _ rfl
  have p3 := A0.cell 3 _ rfl
  go_wp2_with fail
  clear p0 p1 p2 p3
  clear hneg
  refine (hto w1 (hrb w1 b0) hl).mono ?_
  rintro e w3 ⟨q1, rfl, e1, o1, n1, g1, hb⟩
  replace A0 := A0.below hb
  replace b0 := b0.trans (hb.mono b0.size)
  clear hb
  clear n1 g1
  go_wp2_with fail
  refine (hsp q1 e1 w3 (instK.own_rd o1) (by rw [hqn q1 e1]; exact hl)).mono ?_
  rintro e w5 ⟨qs, rfl, es, os, ns, gs, hb⟩
  have hA4 := A0.lt
  have us : ∀ k ∈ instK.foot qs, w.heap.size < k ∧ k < w5.heap.size := fun k hk => ⟨by have := gs k hk; omega, instK.own_lt os k hk⟩
  replace A0 := A0.below hb
  replace b0 := b0.trans (hb.mono b0.size)
  clear hb
  clear hsp e1 o1 ns gs hA4
  have hw5 : w.heap.size < w5.heap.size := A0.lt
  have hls : InstQ.n qs ≤ 1048576 := hqs.out qs es hl
  obtain ⟨hass, vbs, batchs, vrs, roundss, vds, decs⟩ := qs
  obtain ⟨bas, bks, rfl⟩ : ∃ a c, vbs = .slice a batchs.length c := os.1.shape
  obtain ⟨vas, vks, rfl⟩ : ∃ a c, vrs = .slice a roundss.length c := os.2.1.shape
  obtain ⟨das, dks, rfl⟩ : ∃ a c, vds = .slice a decs.length c := os.2.2.shape
  have S0 := Blk.new w5 39 #[.int .i64 D, .int .i64 K0, .bool K1, .bool K2, .int .i64 K3, .bool hass, .slice bas batchs.length bks, .slice vas roundss.length vks, .slice das decs.length dks]
  have hb : Below w5.heap.size w5 (w5.alloc (.cells #[.int .i64 D, .int .i64 K0, .bool K1, .bool K2, .int .i64 K3, .bool hass, .slice bas batchs.length bks, .slice vas roundss.length vks, .slice das decs.length dks] 39)) := by go_grown
  replace A0 := A0.below hb
  replace os := instK.own_out (F := []) os (Out.of_below hb) (fun _ _ => by simp)
  replace b0 := b0.trans (hb.mono b0.size)
  clear hb
  have p0 := A0.cell 0 _ rfl
  have p1 := A0.cell 1 _ rfl
  have p2 := A0.cell 2 _ rfl
  have p3 := A0.cell 3 _ rfl
  go_wp2_with fail
  clear p0 p1 p2 p3
  generalize w5.alloc (.cells #[.int .i64 D, .int .i64 K0, .bool K1, .bool K2, .int .i64 K3, .bool hass, .slice bas batchs.length bks, .slice vas roundss.length vks, .slice das decs.length dks] 39) = W5 at *
  refine (hto W5 (hrb W5 b0) hl).mono ?_
  rintro e w6 ⟨q2, rfl, e2, o2, n2, g2, hb⟩
  have hS5 := S0.lt
  have u2 : ∀ k ∈ instK.foot q2, w5.heap.size < k ∧ k < w6.heap.size := fun k hk => ⟨by have := g2 k hk; omega, instK.own_lt o2 k hk⟩
  replace A0 := A0.below hb
  replace S0 := S0.below hb
  replace os := instK.own_out (F := []) os (Out.of_below hb) (fun _ _ => by simp)
  replace b0 := b0.trans (hb.mono b0.size)
  clear hb
  clear g2
  have hw6 : w5.heap.size < w6.heap.size := S0.lt
  have hl2 : InstQ.n q2 ≤ 1048576 := by rw [hqn q2 e2]; exact hl
  have hi2 := fun w hG h => him q2 e2 w hG h hl2
  obtain ⟨has2, vb2, batch2, vr2, rounds2, vd2, dec2⟩ := q2
  obtain ⟨ba2, bk2, rfl⟩ : ∃ a c, vb2 = .slice a batch2.length c := o2.1.shape
  obtain ⟨va2, vk2, rfl⟩ : ∃ a c, vr2 = .slice a rounds2.length c := o2.2.1.shape
  obtain ⟨da2, dk2, rfl⟩ : ∃ a c, vd2 = .slice a dec2.length c := o2.2.2.shape
  dsimp only at hi2
  have X0 := Blk.new w6 28 #[.bool has2, .slice ba2 batch2.length bk2, .slice va2 rounds2.length vk2, .slice da2 dec2.length dk2]
  have hb : Below w6.heap.size w6 (w6.alloc (.cells #[.bool has2, .slice ba2 batch2.length bk2, .slice va2 rounds2.length vk2, .slice da2 dec2.length dk2] 28)) := by go_grown
  replace A0 := A0.below hb
  replace S0 := S0.below hb
  replace os := instK.own_out (F := []) os (Out.of_below hb) (fun _ _ => by simp)
  replace o2 := instK.own_out (F := []) o2 (Out.of_below hb) (fun _ _ => by simp)
  replace b0 := b0.trans (hb.mono b0.size)
  clear hb
  have p0 := X0.cell 0 _ rfl
  have p1 := X0.cell 1 _ rfl
  have p2 := X0.cell 2 _ rfl
  have p3 := X0.cell 3 _ rfl
  go_wp2_with fail
  clear p0 p1 p2 p3
  generalize w6.alloc (.cells #[.bool has2, .slice ba2 batch2.length bk2, .slice va2 rounds2.length vk2, .slice da2 dec2.length dk2] 28) = W6 at *
  refine (hi2 W6 (hG.below b0) (instK.own_rd o2)).mono ?_
  rintro e w8 ⟨qi, rfl, ei, oi, ni, gi, hb⟩
  have h78 := hb.size
  have hX6 := X0.lt
  have ui : ∀ k ∈ instK.foot qi, w6.heap.size < k ∧ k < w8.heap.size := fun k hk => ⟨by have := gi k hk; omega, instK.own_lt oi k hk⟩
  replace A0 := A0.below hb
  replace S0 := S0.below hb
  replace X0 := X0.below hb
  replace os := instK.own_out (F := []) os (Out.of_below hb) (fun _ _ => by simp)
  replace o2 := instK.own_out (F := []) o2 (Out.of_below hb) (fun _ _ => by simp)
  replace b0 := b0.trans (hb.mono b0.size)
  clear hb
  clear gi hi2
  have hX8 := X0.lt
  have hli : InstQ.n qi ≤ 1048576 := hqs.out qi ei hl
  obtain ⟨hasi, vbi, batchi, vri, roundsi, vdi, deci⟩ := qi
  obtain ⟨bai, bki, rfl⟩ : ∃ a c, vbi = .slice a batchi.length c := oi.1.shape
  obtain ⟨vai, vki, rfl⟩ : ∃ a c, vri = .slice a roundsi.length c := oi.2.1.shape
  obtain ⟨dai, dki, rfl⟩ : ∃ a c, vdi = .slice a deci.length c := oi.2.2.shape
  have Y0 := Blk.new w8 39 #[.int .i64 D, .int .i64 K0, .bool K1, .bool K2, .int .i64 K3, .bool hasi, .slice bai batchi.length bki, .slice vai roundsi.length vki, .slice dai deci.length dki]
  have hb : Below w8.heap.size w8 (w8.alloc (.cells #[.int .i64 D, .int .i64 K0, .bool K1, .bool K2, .int .i64 K3, .bool hasi, .slice bai batchi.length bki, .slice vai roundsi.length vki, .slice dai deci.length dki] 39)) := by go_grown
  replace A0 := A0.below hb
  replace S0 := S0.below hb
  replace X0 := X0.below hb
  replace os := instK.own_out (F := []) os (Out.of_below hb) (fun _ _ => by simp)
  replace o2 := instK.own_out (F := []) o2 (Out.of_below hb) (fun _ _ => by simp)
  replace oi := instK.own_out (F := []) oi (Out.of_below hb) (fun _ _ => by simp)
  replace b0 := b0.trans (hb.mono b0.size)
  clear hb
  have r0 := S0.cell 0 _ rfl
  have r1 := S0.cell 1 _ rfl
  have r2 := S0.cell 2 _ rfl
  have r3 := S0.cell 3 _ rfl
  have r4 := S0.cell 4 _ rfl
  have r5 := S0.cell 5 _ rfl
  have r6 := S0.cell 6 _ rfl
  have r7 := S0.cell 7 _ rfl
  have r8 := S0.cell 8 _ rfl
  go_wp2_with fail
  clear r0 r1 r2 r3 r4 r5 r6 r7 r8
  generalize w8.alloc (.cells #[.int .i64 D, .int .i64 K0, .bool K1, .bool K2, .int .i64 K3, .bool hasi, .slice bai batchi.length bki, .slice vai roundsi.length vki, .slice dai deci.length dki] 39) = W8 at *
  refine (eqIR6_k D K0 K1 K2 K3 (⟨hasi, .slice bai batchi.length bki, batchi, .slice vai roundsi.length vki, roundsi, .slice dai deci.length dki, deci⟩ : InstQ) (⟨hass, .slice bas batchs.length bks, batchs, .slice vas roundss.length vks, roundss, .slice das decs.length dks, decs⟩ : InstQ) _ (instK.own_rd oi) (instK.own_rd os) (ei.trans es.symm) hli).mono ?_
  rintro e w9 ⟨rfl, hb⟩
  replace A0 := A0.below hb
  replace S0 := S0.below hb
  replace X0 := X0.below hb
  replace Y0 := Y0.below hb
  replace os := instK.own_out (F := []) os (Out.of_below hb) (fun _ _ => by simp)
  replace o2 := instK.own_out (F := []) o2 (Out.of_below hb) (fun _ _ => by simp)
  replace oi := instK.own_out (F := []) oi (Out.of_below hb) (fun _ _ => by simp)
  replace b0 := b0.trans (hb.mono b0.size)
  clear hb
  go_wp2_with fail
  have hW : Below w9.heap.size w9 w9.drew := (Below.refl _ _).drew
  have hnn : Nonempty (Lat w9) := ⟨⟨w9, Below.refl _ _⟩⟩
  have k0 := A0.lat 0 _ rfl
  have l0 := X0.lat 0 _ rfl
  have k1 := A0.lat 1 _ rfl
  have l1 := X0.lat 1 _ rfl
  have k2 := A0.lat 2 _ rfl
  have l2 := X0.lat 2 _ rfl
  have k3 := A0.lat 3 _ rfl
  have l3 := X0.lat 3 _ rfl
  refine text_begin (S := fun w' => ∃ u : Lat w9, w' = u.val) (by kernel_rfl) ?_
  refine seg_range [(0, 2)] 3 (by kernel_rfl) (by kernel_rfl) (by kernel_rfl) (by kernel_rfl) (by kernel_rfl) ⟨⟨_, hW⟩, rfl⟩ ?_
  simp only [pickR, List.toList_toArray, List.flatMap_cons, List.flatMap_nil, List.drop_succ_cons, List.drop_zero, List.take_succ_cons, List.take_zero, List.cons_append, List.nil_append, List.append_nil]
  repeat go_big_quiet_step (fail)
  refine wpQuiet_nil ?_
  refine call_at 2 (some 45) 24 #[.agg #[.bool has, .slice ba batch.length bk, .slice va rounds.length vk, .slice da dec.length dk]] 2 (by kernel_rfl) (by kernel_rfl) (by kernel_rfl) (by kernel_rfl) (by kernel_rfl) ?_
  refine (hto _ (hrb _ (b0.trans (hW.mono b0.size))) hl).mono ?_
  rintro e wz ⟨q9, rfl, e9, o9, n9, g9, hb9⟩
  replace hW := hW.trans (hb9.mono hW.size)
  clear n9 g9
  clear hb9
  refine ⟨_, rfl, ⟨⟨_, hW⟩, rfl⟩, ?_⟩
  simp only [Act.put, List.setIfInBounds_toArray, List.set_cons_zero, List.set_cons_succ]
  refine call_at 3 (some 46) 26 #[.agg #[.bool has2, .slice ba2 batch2.length bk2, .slice va2 rounds2.length vk2, .slice da2 dec2.length dk2], .agg #[.bool q9.has, q9.vb, q9.vr, q9.vd]] 1 (by kernel_rfl) (by kernel_rfl) (by kernel_rfl) (by kernel_rfl) (by kernel_rfl) ?_
  refine (eqInstance_k (⟨has2, .slice ba2 batch2.length bk2, batch2, .slice va2 rounds2.length vk2, rounds2, .slice da2 dec2.length dk2, dec2⟩ : InstQ) q9 _ (instK.rd_below (instK.own_rd o2) hW) (instK.own_rd o9) (e2.trans e9.symm) hl2).mono ?_
  rintro e wz ⟨rfl, hb9⟩
  replace hW := hW.trans (hb9.mono hW.size)
  clear hb9
  refine ⟨_, rfl, ⟨⟨_, hW⟩, rfl⟩, ?_⟩
  simp only [Act.put, List.setIfInBounds_toArray, List.set_cons_zero, List.set_cons_succ]
  refine seg_range [(4, 1)] 0 (by kernel_rfl) (by kernel_rfl) (by kernel_rfl) (by kernel_rfl) (by kernel_rfl) ⟨⟨_, hW⟩, rfl⟩ ?_
  simp only [pickR, List.toList_toArray, List.flatMap_cons, List.flatMap_nil, List.drop_succ_cons, List.drop_zero, List.take_succ_cons, List.take_zero, List.cons_append, List.nil_append, List.append_nil]
  repeat go_big_quiet_step (fail)
  refine wpQuiet_nil ?_
  refine text_end (by kernel_rfl) ?_
  clear k0 k1 k2 k3 l0 l1 l2 l3 hnn o9 e9
  replace A0 := A0.below hW
  replace S0 := S0.below hW
  replace X0 := X0.below hW
  replace Y0 := Y0.below hW
  replace os := instK.own_out (F := []) os (Out.of_below hW) (fun _ _ => by simp)
  replace o2 := instK.own_out (F := []) o2 (Out.of_below hW) (fun _ _ => by simp)
  replace oi := instK.own_out (F := []) oi (Out.of_below hW) (fun _ _ => by simp)
  replace b0 := b0.trans (hW.mono b0.size)
  clear hW
  have p0 := X0.cell 0 _ rfl
  have p1 := X0.cell 1 _ rfl
  have p2 := X0.cell 2 _ rfl
  have p3 := X0.cell 3 _ rfl
  go_wp2_with fail
  clear p0 p1 p2 p3
  have hm2 := nmInst_le (⟨has2, .slice ba2 batch2.length bk2, batch2, .slice va2 rounds2.length vk2, rounds2, .slice da2 dec2.length dk2, dec2⟩ : InstQ)
  refine (markInstance_k (⟨has2, .slice ba2 batch2.length bk2, batch2, .slice va2 rounds2.length vk2, rounds2, .slice da2 dec2.length dk2, dec2⟩ : InstQ) 1 _ o2 n2 hl2 (by omega) (by omega)).mono ?_
  rintro e w13 ⟨rfl, _, hU⟩
  have hNU : ∀ k, k ∈ instK.foot (⟨has2, .slice ba2 batch2.length bk2, batch2, .slice va2 rounds2.length vk2, rounds2, .slice da2 dec2.length dk2, dec2⟩ : InstQ) → w5.heap.size < k ∧ k < w6.heap.size := u2
  replace A0 := A0.outs hU (fun hk => by have := hNU _ hk; omega)
  replace S0 := S0.outs hU (fun hk => by have := hNU _ hk; omega)
  replace X0 := X0.outs hU (fun hk => by have := hNU _ hk; omega)
  replace Y0 := Y0.outs hU (fun hk => by have := hNU _ hk; omega)
  replace os := instK.own_out os hU (fun k hk hk' => by have := hNU _ hk'; have := us k hk; omega)
  replace oi := instK.own_out oi hU (fun k hk hk' => by have := hNU _ hk'; have := ui k hk; omega)
  replace b0 := Out.keep b0 hU b0.size (fun k hk => by have := hNU _ hk; omega)
  clear hNU hU
  clear o2
  generalize hM2 : (nmInst (⟨has2, .slice ba2 batch2.length bk2, batch2, .slice va2 rounds2.length vk2, rounds2, .slice da2 dec2.length dk2, dec2⟩ : InstQ) : Int) = M2 at *
  have hm2' : 0 ≤ M2 ∧ M2 ≤ 3145728 := by omega
  have hpos : ¬ (1 + M2 < 0) := by omega
  clear hm2 hM2
  have p0 := Y0.cell 0 _ rfl
  have p1 := Y0.cell 1 _ rfl
  have p2 := Y0.cell 2 _ rfl
  have p3 := Y0.cell 3 _ rfl
  have p4 := Y0.cell 4 _ rfl
  have p5 := Y0.cell 5 _ rfl
  have p6 := Y0.cell 6 _ rfl
  have p7 := Y0.cell 7 _ rfl
  have p8 := Y0.cell 8 _ rfl
  have r0 := S0.cell 0 _ rfl
  have r1 := S0.cell 1 _ rfl
  have r2 := S0.cell 2 _ rfl
  have r3 := S0.cell 3 _ rfl
  have r4 := S0.cell 4 _ rfl
  have r5 := S0.cell 5 _ rfl
  have r6 := S0.cell 6 _ rfl
  have r7 := S0.cell 7 _ rfl
  have r8 := S0.cell 8 _ rfl
  go_wp2_with fail
  clear p0 p1 p2 p3 p4 p5 p6 p7 p8
  clear r0 r1 r2 r3 r4 r5 r6 r7 r8
  refine (eqIR6_k D K0 K1 K2 K3 (⟨hasi, .slice bai batchi.length bki, batchi, .slice vai roundsi.length vki, roundsi, .slice dai deci.length dki, deci⟩ : InstQ) (⟨hass, .slice bas batchs.length bks, batchs, .slice vas roundss.length vks, roundss, .slice das decs.length dks, decs⟩ : InstQ) _ (instK.own_rd oi) (instK.own_rd os) (ei.trans es.symm) hli).mono ?_
  rintro e w15 ⟨rfl, hb⟩
  replace A0 := A0.below hb
  replace S0 := S0.below hb
  replace X0 := X0.below hb
  replace Y0 := Y0.below hb
  replace os := instK.own_out (F := []) os (Out.of_below hb) (fun _ _ => by simp)
  replace oi := instK.own_out (F := []) oi (Out.of_below hb) (fun _ _ => by simp)
  replace b0 := b0.trans (hb.mono b0.size)
  clear hb
  have p0 := Y0.cell 0 _ rfl
  have p1 := Y0.cell 1 _ rfl
  have p2 := Y0.cell 2 _ rfl
  have p3 := Y0.cell 3 _ rfl
  have p4 := Y0.cell 4 _ rfl
  have p5 := Y0.cell 5 _ rfl
  have p6 := Y0.cell 6 _ rfl
  have p7 := Y0.cell 7 _ rfl
  have p8 := Y0.cell 8 _ rfl
  go_wp2_with fail
  clear p0 p1 p2 p3 p4 p5 p6 p7 p8
  have hmi := nmInst_le (⟨hasi, .slice bai batchi.length bki, batchi, .slice vai roundsi.length vki, roundsi, .slice dai deci.length dki, deci⟩ : InstQ)
  refine (markIR6_k D K0 K1 K2 K3 (⟨hasi, .slice bai batchi.length bki, batchi, .slice vai roundsi.length vki, roundsi, .slice dai deci.length dki, deci⟩ : InstQ) 1 w15 oi ni hli (by omega) (by omega)).mono ?_
  rintro e w16 ⟨rfl, om, hU⟩
  have hNU : ∀ k, k ∈ instK.foot (⟨hasi, .slice bai batchi.length bki, batchi, .slice vai roundsi.length vki, roundsi, .slice dai deci.length dki, deci⟩ : InstQ) → w6.heap.size < k ∧ k < w8.heap.size := ui
  replace A0 := A0.outs hU (fun hk => by have := hNU _ hk; omega)
  replace S0 := S0.outs hU (fun hk => by have := hNU _ hk; omega)
  replace X0 := X0.outs hU (fun hk => by have := hNU _ hk; omega)
  replace Y0 := Y0.outs hU (fun hk => by have := hNU _ hk; omega)
  replace os := instK.own_out os hU (fun k hk hk' => by have := hNU _ hk'; have := us k hk; omega)
  replace b0 := Out.keep b0 hU b0.size (fun k hk => by have := hNU _ hk; omega)
  clear hNU hU
  clear oi
  have rm := instK.own_rd om
  clear om
  have hmm : Hid (∀ w', Below w16.heap.size w16 w' → instK.rd w' (mkInst 1 (⟨hasi, .slice bai batchi.length bki, batchi, .slice vai roundsi.length vki, roundsi, .slice dai deci.length dki, deci⟩ : InstQ))) := fun w' hb => instK.rd_below rm hb
  have hbq : Below w16.heap.size w16 w16 := Below.refl _ _
  have hhe := fun w h => heldIR6_k D K0 K1 K2 K3 (⟨hasi, .slice bai batchi.length bki, batchi, .slice vai roundsi.length vki, roundsi, .slice dai deci.length dki, deci⟩ : InstQ) 1 w h hli (by omega) (by omega)
  generalize hMi : (nmInst (⟨hasi, .slice bai batchi.length bki, batchi, .slice vai roundsi.length vki, roundsi, .slice dai deci.length dki, deci⟩ : InstQ) : Int) = Mi at *
  have hmi' : 0 ≤ Mi ∧ Mi ≤ 3145728 := by omega
  have hpi : ¬ (1 + Mi < 0) := by omega
  have hne : ((1 + Mi) != (1 + Mi)) = false := by simp
  clear hmi hMi rm
  have p0 := Y0.cell 0 _ rfl
  have p1 := Y0.cell 1 _ rfl
  have p2 := Y0.cell 2 _ rfl
  have p3 := Y0.cell 3 _ rfl
  have p4 := Y0.cell 4 _ rfl
  have p5 := Y0.cell 5 _ rfl
  have p6 := Y0.cell 6 _ rfl
  have p7 := Y0.cell 7 _ rfl
  have p8 := Y0.cell 8 _ rfl
  go_wp2_with fail
  clear p0 p1 p2 p3 p4 p5 p6 p7 p8
  refine (hhe w16 (hmm.out _ hbq)).mono ?_
  rintro e w17 ⟨rfl, hb⟩
  replace hbq := hbq.trans (hb.mono hbq.size)
  replace A0 := A0.below hb
  replace S0 := S0.below hb
  replace X0 := X0.below hb
  replace Y0 := Y0.below hb
  replace os := instK.own_out (F := []) os (Out.of_below hb) (fun _ _ => by simp)
  replace b0 := b0.trans (hb.mono b0.size)
  clear hb
  have p0 := A0.cell 0 _ rfl
  have p1 := A0.cell 1 _ rfl
  have p2 := A0.cell 2 _ rfl
  have p3 := A0.cell 3 _ rfl
  go_wp2_with fail
  clear p0 p1 p2 p3
  refine (hto w17 (hrb w17 b0) hl).mono ?_
  rintro e w18 ⟨q5, rfl, e5, o5, n5, g5, hb⟩
  replace hbq := hbq.trans (hb.mono hbq.size)
  replace A0 := A0.below hb
  replace S0 := S0.below hb
  replace X0 := X0.below hb
  replace Y0 := Y0.below hb
  replace os := instK.own_out (F := []) os (Out.of_below hb) (fun _ _ => by simp)
  replace b0 := b0.trans (hb.mono b0.size)
  clear hb
  clear n5 g5
  go_wp2_with fail
  refine (him q5 e5 w18 (hG.below b0) (instK.own_rd o5) (by rw [hqn q5 e5]; exact hl)).mono ?_
  rintro e w20 ⟨qh, rfl, eh, oh, nh, gh, hb⟩
  replace hbq := hbq.trans (hb.mono hbq.size)
  replace A0 := A0.below hb
  replace S0 := S0.below hb
  replace X0 := X0.below hb
  replace Y0 := Y0.below hb
  replace os := instK.own_out (F := []) os (Out.of_below hb) (fun _ _ => by simp)
  replace b0 := b0.trans (hb.mono b0.size)
  clear hb
  clear nh gh him e5 o5 hto
  have hlh : InstQ.n qh ≤ 1048576 := hqs.out qh eh hl
  obtain ⟨hash, vbh, batchh, vrh, roundsh, vdh, dech⟩ := qh
  obtain ⟨bah, bkh, rfl⟩ : ∃ a c, vbh = .slice a batchh.length c := oh.1.shape
  obtain ⟨vah, vkh, rfl⟩ : ∃ a c, vrh = .slice a roundsh.length c := oh.2.1.shape
  obtain ⟨dah, dkh, rfl⟩ : ∃ a c, vdh = .slice a dech.length c := oh.2.2.shape
  have H0 := Blk.new w20 39 #[.int .i64 D, .int .i64 K0, .bool K1, .bool K2, .int .i64 K3, .bool hash, .slice bah batchh.length bkh, .slice vah roundsh.length vkh, .slice dah dech.length dkh]
  have hb : Below w20.heap.size w20 (w20.alloc (.cells #[.int .i64 D, .int .i64 K0, .bool K1, .bool K2, .int .i64 K3, .bool hash, .slice bah batchh.length bkh, .slice vah roundsh.length vkh, .slice dah dech.length dkh] 39)) := by go_grown
  replace hbq := hbq.trans (hb.mono hbq.size)
  replace A0 := A0.below hb
  replace S0 := S0.below hb
  replace X0 := X0.below hb
  replace Y0 := Y0.below hb
  replace os := instK.own_out (F := []) os (Out.of_below hb) (fun _ _ => by simp)
  replace oh := instK.own_out (F := []) oh (Out.of_below hb) (fun _ _ => by simp)
  replace b0 := b0.trans (hb.mono b0.size)
  clear hb
  have r0 := S0.cell 0 _ rfl
  have r1 := S0.cell 1 _ rfl
  have r2 := S0.cell 2 _ rfl
  have r3 := S0.cell 3 _ rfl
  have r4 := S0.cell 4 _ rfl
  have r5 := S0.cell 5 _ rfl
  have r6 := S0.cell 6 _ rfl
  have r7 := S0.cell 7 _ rfl
  have r8 := S0.cell 8 _ rfl
  go_wp2_with fail
  clear r0 r1 r2 r3 r4 r5 r6 r7 r8
  generalize w20.alloc (.cells #[.int .i64 D, .int .i64 K0, .bool K1, .bool K2, .int .i64 K3, .bool hash, .slice bah batchh.length bkh, .slice vah roundsh.length vkh, .slice dah dech.length dkh] 39) = W20 at *
  refine (eqIR6_k D K0 K1 K2 K3 (⟨hash, .slice bah batchh.length bkh, batchh, .slice vah roundsh.length vkh, roundsh, .slice dah dech.length dkh, dech⟩ : InstQ) (⟨hass, .slice bas batchs.length bks, batchs, .slice vas roundss.length vks, roundss, .slice das decs.length dks, decs⟩ : InstQ) _ (instK.own_rd oh) (instK.own_rd os) (eh.trans es.symm) hlh).mono ?_
  rintro e w21 ⟨rfl, hb⟩
  replace hbq := hbq.trans (hb.mono hbq.size)
  replace A0 := A0.below hb
  replace S0 := S0.below hb
  replace X0 := X0.below hb
  replace Y0 := Y0.below hb
  replace H0 := H0.below hb
  replace os := instK.own_out (F := []) os (Out.of_below hb) (fun _ _ => by simp)
  replace oh := instK.own_out (F := []) oh (Out.of_below hb) (fun _ _ => by simp)
  replace b0 := b0.trans (hb.mono b0.size)
  clear hb
  have p0 := Y0.cell 0 _ rfl
  have p1 := Y0.cell 1 _ rfl
  have p2 := Y0.cell 2 _ rfl
  have p3 := Y0.cell 3 _ rfl
  have p4 := Y0.cell 4 _ rfl
  have p5 := Y0.cell 5 _ rfl
  have p6 := Y0.cell 6 _ rfl
  have p7 := Y0.cell 7 _ rfl
  have p8 := Y0.cell 8 _ rfl
  go_wp2_with fail
  clear p0 p1 p2 p3 p4 p5 p6 p7 p8
  refine (hhe w21 (hmm.out _ hbq)).mono ?_
  rintro e w22 ⟨rfl, hb⟩
  replace b0 := b0.trans (hb.mono b0.size)
  clear hb hhe hmm hbq A0 S0 X0 Y0 H0 os oh
  go_wp2
  go_ret
  exact ⟨rfl, b0⟩

end Go.Proofs.YtjnkldlkbjldcaaGreatDoor

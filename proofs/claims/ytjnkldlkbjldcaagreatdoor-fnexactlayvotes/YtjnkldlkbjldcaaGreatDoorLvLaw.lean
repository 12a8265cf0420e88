/- The law FnExactLayVotes, walked: at every instance and every list of votes that can be read it answers true, and it writes into nothing that was there. The condition: impl.rules and impl.openRow start as the program's text lays them. -/
import Derived.Test.YtjnkldlkbjldcaaGreatDoorMs10
import Derived.Test.YtjnkldlkbjldcaaGreatDoorLvm
import Derived.Test.YtjnkldlkbjldcaaGreatDoorGH
namespace Go.Proofs.YtjnkldlkbjldcaaGreatDoor
open Go.RowKit
open Go.BigFrame
set_option linter.unusedVariables false
set_option maxRecDepth 100000
set_option linter.unusedSimpArgs false

theorem Only.outs10 {lo hi : Nat} {w w' : World} (h : Only lo hi w w') : Out (List.range' lo (hi - lo)) w w' := ⟨h.os, h.tape, h.output, h.size, fun k hk hn => h.block k hk (by
  rcases Nat.lt_or_ge k lo with h1 | h1
  · exact Or.inl h1
  · refine Or.inr ?_
    rcases Nat.lt_or_ge k hi with h2 | h2
    · exact absurd (List.mem_range'_1.2 ⟨h1, by omega⟩) hn
    · exact h2)⟩
theorem OwnS.outs10 {e size lo hi n : Nat} {w w' : World} {v : Value} {xs : List Value} {F : List Nat} (o : OwnS e size lo hi w v n xs) (hU : Out F w w') (hF : ∀ k ∈ F, k < lo ∨ hi ≤ k) : OwnS e size lo hi w' v n xs :=
  ⟨own_outs o.1 hU (fun k hk hk' => by
    have h1 : v.ownBlock = some k := by simpa [blk] using hk
    have h2 := o.2 k h1
    have h3 := (o.1.lt k h1).1
    have h4 := hF k hk'
    omega), o.2⟩
theorem specLV_e (p : InstQ) (a : Option Addr) (c : Nat) (L : List VoteD) (x : InstE) (hx : p.e = x) (w : World) (h : instK.rd w p) (hT : VoteRow w a L) (hl : p.n ≤ 1048576) (hl' : L.length ≤ 1048576) :
    Calls Tryz.prog 17 #[.agg #[.bool p.has, p.vb, p.vr, p.vd], .slice a L.length c] w fun e w' => ∃ q : InstQ, e = .returned (.agg (resC (lvC x L) 0 false false 0 q)) ∧ q.e = lvI x L ∧ instK.own w' q ∧ (instK.foot q).Nodup ∧ (∀ k ∈ instK.foot q, w.heap.size ≤ k) ∧ Below w.heap.size w w' := by
  subst hx
  exact specLayVotes_any p a c L w h hl hT hl'
theorem implLV_e (p : InstQ) (a : Option Addr) (c : Nat) (L : List VoteD) (x : InstE) (hx : p.e = x) (w : World) (hG : RulO w) (h : instK.rd w p) (hT : VoteRow w a L) (hl : p.n ≤ 1048576) (hl' : L.length ≤ 1048576) :
    Calls Tryz.prog 16 #[.agg #[.bool p.has, p.vb, p.vr, p.vd], .slice a L.length c] w fun e w' => ∃ q : InstQ, e = .returned (.agg (resC (lvC x L) 0 false false 0 q)) ∧ q.e = lvI x L ∧ instK.own w' q ∧ (instK.foot q).Nodup ∧ (∀ k ∈ instK.foot q, w.heap.size ≤ k) ∧ Below w.heap.size w w' := by
  subst hx
  exact implLayVotes_any p a c L w hG h hl hT hl'
theorem lv_n {q p : InstQ} {L : List VoteD} (h : q.e = lvI p.e L) : q.n ≤ 60 := by
  rw [inst_ne, h]
  unfold lvI
  split
  · rename_i h0
    have hi : insF p.e = 0 := by
      unfold lvC at h0
      split at h0
      · assumption
      · exact h0
    have f := (frm_of hi).all L
    exact form_small hi f.w f.h4 f.d
  · rw [ine0_n]
    omega

set_option maxRecDepth 100000 in
set_option maxHeartbeats 8000000 in
theorem layVotesLaw (p : InstQ) (va0 : Option Addr) (cap0 : Nat) (L : List VoteD) (w : World) (hG : RulO w) (h : instK.rd w p) (hn : p.wf) (hT : VoteRow w va0 L) (hbl : L.length ≤ 9223372036854775807) :
    Calls Tryz.prog 5 #[.agg #[.bool p.has, p.vb, p.vr, p.vd], .slice va0 L.length cap0] w fun e w' => e = .returned (.bool true) ∧ Below w.heap.size w w' := by
  have hsz := fun w h => szInstance_k p 1048576 w h hn (by omega) (by omega)
  have hszT := fun c w h0 h1 => szVotes_u va0 L.length cap0 c w hbl h0 h1
  have hto := fun w h hl => toInstance_k p w h hl
  have htoT := fun w h hl => toVotes_u va0 cap0 L w h hl
  have hsp := fun q a c (hq : InstQ.e q = p.e) w h hT hl hl' => specLV_e q a c L _ hq w h hT hl hl'
  have him := fun q a c (hq : InstQ.e q = p.e) w hG h hT hl hl' => implLV_e q a c L _ hq w hG h hT hl hl'
  have hqn : ∀ q : InstQ, q.e = p.e → q.n = p.n := fun q hq => inst_n hq
  have hqs : ∀ q : InstQ, q.e = lvI p.e L → q.n ≤ 60 := fun q hq => lv_n hq
  have hrb := fun (w' : World) hb => instK.rd_below (w' := w') h hb
  generalize lvC p.e L = D at *
  generalize lvI p.e L = E at *
  generalize hpe : p.e = pe at *
  generalize hpn : p.n = pn at *
  obtain ⟨has, vb, batch, vr, rounds, vd, dec⟩ := p
  obtain ⟨ba, bk, rfl⟩ : ∃ a c, vb = .slice a batch.length c := h.1.shape
  obtain ⟨va, vk, rfl⟩ : ∃ a c, vr = .slice a rounds.length c := h.2.1.shape
  obtain ⟨da, dk, rfl⟩ : ∃ a c, vd = .slice a dec.length c := h.2.2.shape
  dsimp only at hsz hto hrb
  have b0 : Below w.heap.size w (w.alloc (.cells #[.bool has, .slice ba batch.length bk, .slice va rounds.length vk, .slice da dec.length dk] 50)) := by go_grown
  have A0 := Blk.new w 50 #[.bool has, .slice ba batch.length bk, .slice va rounds.length vk, .slice da dec.length dk]
  go_enter Tryz.func5, Tryz.ntmps5
  go_wp2_with fail
  generalize w.alloc (.cells #[.bool has, .slice ba batch.length bk, .slice va rounds.length vk, .slice da dec.length dk] 50) = W at *
  refine (hsz W (hrb W b0)).mono ?_
  rintro e w1 ⟨r, rfl, hr, hb⟩
  replace A0 := A0.below hb
  replace b0 := b0.trans (hb.mono b0.size)
  clear hb
  clear hsz
  by_cases hneg : r < 0
  · go_wp2
    go_ret
    exact ⟨rfl, b0⟩
  have hl : (pn : Int) + r = 1048576 := hr (by omega)
  clear hr
  go_wp2_with fail
  refine (hszT r w1 (by omega) (by omega)).mono ?_
  rintro e w2 ⟨r', rfl, hr, hb⟩
  replace A0 := A0.below hb
  replace b0 := b0.trans (hb.mono b0.size)
  clear hb
  clear hszT
  by_cases hneg' : r' < 0
  · go_wp2
    go_ret
    exact ⟨rfl, b0⟩
  have hl' : ((L.length : Nat) : Int) + r' = r := hr (by omega)
  clear hr
  have hsum : pn + L.length ≤ 1048576 := by omega
  replace hl' : L.length ≤ 1048576 := by omega
  replace hl : pn ≤ 1048576 := by omega
  have p0 := A0.cell 0 _ rfl
  have p1 := A0.cell 1 _ rfl
  have p2 := A0.cell 2 _ rfl
  have p3 := A0.cell 3 _ rfl
  go_wp2_with fail
  clear p0 p1 p2 p3
  clear hneg hneg'
  refine (hto w2 (hrb w2 b0) hl).mono ?_
  rintro e w3 ⟨q1, rfl, e1, o1, n1, g1, hb⟩
  replace A0 := A0.below hb
  replace b0 := b0.trans (hb.mono b0.size)
  clear hb
  clear n1 g1
  go_wp2_with fail
  refine (htoT w3 (hT.below b0) hl').mono ?_
  rintro e w4 ⟨va2, vc2, rfl, t2, hb⟩
  replace o1 := instK.own_out (F := []) o1 (Out.of_below hb) (fun _ _ => by simp)
  replace A0 := A0.below hb
  replace b0 := b0.trans (hb.mono b0.size)
  clear hb
  go_wp2_with fail
  refine (hsp q1 va2 vc2 e1 w4 (instK.own_rd o1) t2.lies (by rw [hqn q1 e1]; exact hl) hl').mono ?_
  rintro e w5 ⟨qs, rfl, es, os, ns, gs, hb⟩
  have hA4 := A0.lt
  have us : ∀ k ∈ instK.foot qs, w.heap.size < k ∧ k < w5.heap.size := fun k hk => ⟨by have := gs k hk; omega, instK.own_lt os k hk⟩
  replace A0 := A0.below hb
  replace b0 := b0.trans (hb.mono b0.size)
  clear hb
  clear hsp e1 t2 o1 ns gs hA4
  have hw5 : w.heap.size < w5.heap.size := A0.lt
  have hls : InstQ.n qs ≤ 1048576 := by have := hqs qs es; omega
  obtain ⟨hass, vbs, batchs, vrs, roundss, vds, decs⟩ := qs
  obtain ⟨bas, bks, rfl⟩ : ∃ a c, vbs = .slice a batchs.length c := os.1.shape
  obtain ⟨vas, vks, rfl⟩ : ∃ a c, vrs = .slice a roundss.length c := os.2.1.shape
  obtain ⟨das, dks, rfl⟩ : ∃ a c, vds = .slice a decs.length c := os.2.2.shape
  have S0 := Blk.new w5 39 #[.int .i64 D, .int .i64 0, .bool false, .bool false, .int .i64 0, .bool hass, .slice bas batchs.length bks, .slice vas roundss.length vks, .slice das decs.length dks]
  have hb : Below w5.heap.size w5 (w5.alloc (.cells #[.int .i64 D, .int .i64 0, .bool false, .bool false, .int .i64 0, .bool hass, .slice bas batchs.length bks, .slice vas roundss.length vks, .slice das decs.length dks] 39)) := by go_grown
  replace A0 := A0.below hb
  replace os := instK.own_out (F := []) os (Out.of_below hb) (fun _ _ => by simp)
  replace b0 := b0.trans (hb.mono b0.size)
  clear hb
  have p0 := A0.cell 0 _ rfl
  have p1 := A0.cell 1 _ rfl
  have p2 := A0.cell 2 _ rfl
  have p3 := A0.cell 3 _ rfl
  go_wp2_with fail
  clear p0 p1 p2 p3
  generalize w5.alloc (.cells #[.int .i64 D, .int .i64 0, .bool false, .bool false, .int .i64 0, .bool hass, .slice bas batchs.length bks, .slice vas roundss.length vks, .slice das decs.length dks] 39) = W5 at *
  refine (hto W5 (hrb W5 b0) hl).mono ?_
  rintro e w6 ⟨q2, rfl, e2, o2, n2, g2, hb⟩
  have hS5 := S0.lt
  have u2 : ∀ k ∈ instK.foot q2, w5.heap.size < k ∧ k < w6.heap.size := fun k hk => ⟨by have := g2 k hk; omega, instK.own_lt o2 k hk⟩
  replace A0 := A0.below hb
  replace S0 := S0.below hb
  replace os := instK.own_out (F := []) os (Out.of_below hb) (fun _ _ => by simp)
  replace b0 := b0.trans (hb.mono b0.size)
  clear hb
  clear g2
  have hw6 : w5.heap.size < w6.heap.size := S0.lt
  have hl2 : InstQ.n q2 ≤ 1048576 := by rw [hqn q2 e2]; exact hl
  have hi2 := fun a c w hG h hT => him q2 a c e2 w hG h hT hl2 hl'
  obtain ⟨has2, vb2, batch2, vr2, rounds2, vd2, dec2⟩ := q2
  obtain ⟨ba2, bk2, rfl⟩ : ∃ a c, vb2 = .slice a batch2.length c := o2.1.shape
  obtain ⟨va2, vk2, rfl⟩ : ∃ a c, vr2 = .slice a rounds2.length c := o2.2.1.shape
  obtain ⟨da2, dk2, rfl⟩ : ∃ a c, vd2 = .slice a dec2.length c := o2.2.2.shape
  dsimp only at hi2
  have X0 := Blk.new w6 28 #[.bool has2, .slice ba2 batch2.length bk2, .slice va2 rounds2.length vk2, .slice da2 dec2.length dk2]
  have hb : Below w6.heap.size w6 (w6.alloc (.cells #[.bool has2, .slice ba2 batch2.length bk2, .slice va2 rounds2.length vk2, .slice da2 dec2.length dk2] 28)) := by go_grown
  replace A0 := A0.below hb
  replace S0 := S0.below hb
  replace os := instK.own_out (F := []) os (Out.of_below hb) (fun _ _ => by simp)
  replace o2 := instK.own_out (F := []) o2 (Out.of_below hb) (fun _ _ => by simp)
  replace b0 := b0.trans (hb.mono b0.size)
  clear hb
  go_wp2_with fail
  generalize w6.alloc (.cells #[.bool has2, .slice ba2 batch2.length bk2, .slice va2 rounds2.length vk2, .slice da2 dec2.length dk2] 28) = W6 at *
  refine (htoT W6 (hT.below b0) hl').mono ?_
  rintro e w7 ⟨ta3, tk3, rfl, o3, hb⟩
  have hX6 := X0.lt
  have h67 := hb.size
  replace A0 := A0.below hb
  replace S0 := S0.below hb
  replace X0 := X0.below hb
  replace os := instK.own_out (F := []) os (Out.of_below hb) (fun _ _ => by simp)
  replace o2 := instK.own_out (F := []) o2 (Out.of_below hb) (fun _ _ => by simp)
  replace b0 := b0.trans (hb.mono b0.size)
  clear hb
  have hX7 := X0.lt
  have p0 := X0.cell 0 _ rfl
  have p1 := X0.cell 1 _ rfl
  have p2 := X0.cell 2 _ rfl
  have p3 := X0.cell 3 _ rfl
  go_wp2_with fail
  clear p0 p1 p2 p3
  refine (hi2 ta3 tk3 w7 (hG.below b0) (instK.own_rd o2) o3.lies).mono ?_
  rintro e w8 ⟨qi, rfl, ei, oi, ni, gi, hb⟩
  have h78 := hb.size
  have ui : ∀ k ∈ instK.foot qi, w7.heap.size ≤ k ∧ k < w8.heap.size := fun k hk => ⟨gi k hk, instK.own_lt oi k hk⟩
  replace A0 := A0.below hb
  replace S0 := S0.below hb
  replace X0 := X0.below hb
  replace os := instK.own_out (F := []) os (Out.of_below hb) (fun _ _ => by simp)
  replace o2 := instK.own_out (F := []) o2 (Out.of_below hb) (fun _ _ => by simp)
  replace o3 := o3.below hb
  replace b0 := b0.trans (hb.mono b0.size)
  clear hb
  clear gi hi2
  have hX8 := X0.lt
  have hli : InstQ.n qi ≤ 1048576 := by have := hqs qi ei; omega
  obtain ⟨hasi, vbi, batchi, vri, roundsi, vdi, deci⟩ := qi
  obtain ⟨bai, bki, rfl⟩ : ∃ a c, vbi = .slice a batchi.length c := oi.1.shape
  obtain ⟨vai, vki, rfl⟩ : ∃ a c, vri = .slice a roundsi.length c := oi.2.1.shape
  obtain ⟨dai, dki, rfl⟩ : ∃ a c, vdi = .slice a deci.length c := oi.2.2.shape
  have Y0 := Blk.new w8 39 #[.int .i64 D, .int .i64 0, .bool false, .bool false, .int .i64 0, .bool hasi, .slice bai batchi.length bki, .slice vai roundsi.length vki, .slice dai deci.length dki]
  have hb : Below w8.heap.size w8 (w8.alloc (.cells #[.int .i64 D, .int .i64 0, .bool false, .bool false, .int .i64 0, .bool hasi, .slice bai batchi.length bki, .slice vai roundsi.length vki, .slice dai deci.length dki] 39)) := by go_grown
  replace A0 := A0.below hb
  replace S0 := S0.below hb
  replace X0 := X0.below hb
  replace os := instK.own_out (F := []) os (Out.of_below hb) (fun _ _ => by simp)
  replace o2 := instK.own_out (F := []) o2 (Out.of_below hb) (fun _ _ => by simp)
  replace oi := instK.own_out (F := []) oi (Out.of_below hb) (fun _ _ => by simp)
  replace o3 := o3.below hb
  replace b0 := b0.trans (hb.mono b0.size)
  clear hb
  have r0 := S0.cell 0 _ rfl
  have r1 := S0.cell 1 _ rfl
  have r2 := S0.cell 2 _ rfl
  have r3 := S0.cell 3 _ rfl
  have r4 := S0.cell 4 _ rfl
  have r5 := S0.cell 5 _ rfl
  have r6 := S0.cell 6 _ rfl
  have r7 := S0.cell 7 _ rfl
  have r8 := S0.cell 8 _ rfl
  go_wp2_with fail
  clear r0 r1 r2 r3 r4 r5 r6 r7 r8
  generalize w8.alloc (.cells #[.int .i64 D, .int .i64 0, .bool false, .bool false, .int .i64 0, .bool hasi, .slice bai batchi.length bki, .slice vai roundsi.length vki, .slice dai deci.length dki] 39) = W8 at *
  refine (eqIR6_k D 0 false false 0 (⟨hasi, .slice bai batchi.length bki, batchi, .slice vai roundsi.length vki, roundsi, .slice dai deci.length dki, deci⟩ : InstQ) (⟨hass, .slice bas batchs.length bks, batchs, .slice vas roundss.length vks, roundss, .slice das decs.length dks, decs⟩ : InstQ) _ (instK.own_rd oi) (instK.own_rd os) (ei.trans es.symm) hli).mono ?_
  rintro e w9 ⟨rfl, hb⟩
  replace A0 := A0.below hb
  replace S0 := S0.below hb
  replace X0 := X0.below hb
  replace Y0 := Y0.below hb
  replace os := instK.own_out (F := []) os (Out.of_below hb) (fun _ _ => by simp)
  replace o2 := instK.own_out (F := []) o2 (Out.of_below hb) (fun _ _ => by simp)
  replace oi := instK.own_out (F := []) oi (Out.of_below hb) (fun _ _ => by simp)
  replace o3 := o3.below hb
  replace b0 := b0.trans (hb.mono b0.size)
  clear hb
  go_wp2_with fail
  have hW : Below w9.heap.size w9 w9.drew := (Below.refl _ _).drew
  have hnn : Nonempty (Lat w9) := ⟨⟨w9, Below.refl _ _⟩⟩
  have k0 := A0.lat 0 _ rfl
  have l0 := X0.lat 0 _ rfl
  have k1 := A0.lat 1 _ rfl
  have l1 := X0.lat 1 _ rfl
  have k2 := A0.lat 2 _ rfl
  have l2 := X0.lat 2 _ rfl
  have k3 := A0.lat 3 _ rfl
  have l3 := X0.lat 3 _ rfl
  refine text_begin (S := fun w' => ∃ u : Lat w9, w' = u.val) (by kernel_rfl) ?_
  refine seg_range [(0, 2)] 3 (by kernel_rfl) (by kernel_rfl) (by kernel_rfl) (by kernel_rfl) (by kernel_rfl) ⟨⟨_, hW⟩, rfl⟩ ?_
  simp only [pickR, List.toList_toArray, List.flatMap_cons, List.flatMap_nil, List.drop_succ_cons, List.drop_zero, List.take_succ_cons, List.take_zero, List.cons_append, List.nil_append, List.append_nil]
  repeat go_big_quiet_step (fail)
  refine wpQuiet_nil ?_
  refine call_at 2 (some 42) 24 #[.agg #[.bool has, .slice ba batch.length bk, .slice va rounds.length vk, .slice da dec.length dk]] 2 (by kernel_rfl) (by kernel_rfl) (by kernel_rfl) (by kernel_rfl) (by kernel_rfl) ?_
  refine (hto _ (hrb _ (b0.trans (hW.mono b0.size))) hl).mono ?_
  rintro e wz ⟨q9, rfl, e9, o9, n9, g9, hb9⟩
  replace hW := hW.trans (hb9.mono hW.size)
  clear n9 g9
  clear hb9
  refine ⟨_, rfl, ⟨⟨_, hW⟩, rfl⟩, ?_⟩
  simp only [Act.put, List.setIfInBounds_toArray, List.set_cons_zero, List.set_cons_succ]
  refine call_at 3 (some 43) 26 #[.agg #[.bool has2, .slice ba2 batch2.length bk2, .slice va2 rounds2.length vk2, .slice da2 dec2.length dk2], .agg #[.bool q9.has, q9.vb, q9.vr, q9.vd]] 1 (by kernel_rfl) (by kernel_rfl) (by kernel_rfl) (by kernel_rfl) (by kernel_rfl) ?_
  refine (eqInstance_k (⟨has2, .slice ba2 batch2.length bk2, batch2, .slice va2 rounds2.length vk2, rounds2, .slice da2 dec2.length dk2, dec2⟩ : InstQ) q9 _ (instK.rd_below (instK.own_rd o2) hW) (instK.own_rd o9) (e2.trans e9.symm) hl2).mono ?_
  rintro e wz ⟨rfl, hb9⟩
  replace hW := hW.trans (hb9.mono hW.size)
  clear hb9
  refine ⟨_, rfl, ⟨⟨_, hW⟩, rfl⟩, ?_⟩
  simp only [Act.put, List.setIfInBounds_toArray, List.set_cons_zero, List.set_cons_succ]
  refine seg_range [(4, 1)] 0 (by kernel_rfl) (by kernel_rfl) (by kernel_rfl) (by kernel_rfl) (by kernel_rfl) ⟨⟨_, hW⟩, rfl⟩ ?_
  simp only [pickR, List.toList_toArray, List.flatMap_cons, List.flatMap_nil, List.drop_succ_cons, List.drop_zero, List.take_succ_cons, List.take_zero, List.cons_append, List.nil_append, List.append_nil]
  repeat go_big_quiet_step (fail)
  refine wpQuiet_nil ?_
  refine text_end (by kernel_rfl) ?_
  clear k0 k1 k2 k3 l0 l1 l2 l3 hnn o9 e9
  replace A0 := A0.below hW
  replace S0 := S0.below hW
  replace X0 := X0.below hW
  replace Y0 := Y0.below hW
  replace os := instK.own_out (F := []) os (Out.of_below hW) (fun _ _ => by simp)
  replace o2 := instK.own_out (F := []) o2 (Out.of_below hW) (fun _ _ => by simp)
  replace oi := instK.own_out (F := []) oi (Out.of_below hW) (fun _ _ => by simp)
  replace o3 := o3.below hW
  replace b0 := b0.trans (hW.mono b0.size)
  clear hW
  go_wp2_with fail
  refine (htoT _ (hT.below b0) hl').mono ?_
  rintro e w11 ⟨a4, c4, rfl, o4, hb⟩
  replace A0 := A0.below hb
  replace S0 := S0.below hb
  replace X0 := X0.below hb
  replace Y0 := Y0.below hb
  replace os := instK.own_out (F := []) os (Out.of_below hb) (fun _ _ => by simp)
  replace o2 := instK.own_out (F := []) o2 (Out.of_below hb) (fun _ _ => by simp)
  replace oi := instK.own_out (F := []) oi (Out.of_below hb) (fun _ _ => by simp)
  replace o3 := o3.below hb
  replace b0 := b0.trans (hb.mono b0.size)
  clear hb
  go_wp2_with fail
  refine (eqVoteS_true ta3 a4 tk3 c4 L w11 o3.lies o4.lies (by omega)).mono ?_
  rintro e w12 ⟨rfl, hb⟩
  replace A0 := A0.below hb
  replace S0 := S0.below hb
  replace X0 := X0.below hb
  replace Y0 := Y0.below hb
  replace os := instK.own_out (F := []) os (Out.of_below hb) (fun _ _ => by simp)
  replace o2 := instK.own_out (F := []) o2 (Out.of_below hb) (fun _ _ => by simp)
  replace oi := instK.own_out (F := []) oi (Out.of_below hb) (fun _ _ => by simp)
  replace o3 := o3.below hb
  replace b0 := b0.trans (hb.mono b0.size)
  clear hb
  clear o4
  have p0 := X0.cell 0 _ rfl
  have p1 := X0.cell 1 _ rfl
  have p2 := X0.cell 2 _ rfl
  have p3 := X0.cell 3 _ rfl
  go_wp2_with fail
  clear p0 p1 p2 p3
  have hm2 := nmInst_le (⟨has2, .slice ba2 batch2.length bk2, batch2, .slice va2 rounds2.length vk2, rounds2, .slice da2 dec2.length dk2, dec2⟩ : InstQ)
  refine (markInstance_k (⟨has2, .slice ba2 batch2.length bk2, batch2, .slice va2 rounds2.length vk2, rounds2, .slice da2 dec2.length dk2, dec2⟩ : InstQ) 1 w12 o2 n2 hl2 (by omega) (by omega)).mono ?_
  rintro e w13 ⟨rfl, _, hU⟩
  have hNU : ∀ k, k ∈ instK.foot (⟨has2, .slice ba2 batch2.length bk2, batch2, .slice va2 rounds2.length vk2, rounds2, .slice da2 dec2.length dk2, dec2⟩ : InstQ) → w5.heap.size < k ∧ k < w6.heap.size := u2
  replace A0 := A0.outs hU (fun hk => by have := hNU _ hk; omega)
  replace S0 := S0.outs hU (fun hk => by have := hNU _ hk; omega)
  replace X0 := X0.outs hU (fun hk => by have := hNU _ hk; omega)
  replace Y0 := Y0.outs hU (fun hk => by have := hNU _ hk; omega)
  replace os := instK.own_out os hU (fun k hk hk' => by have := hNU _ hk'; have := us k hk; omega)
  replace oi := instK.own_out oi hU (fun k hk hk' => by have := hNU _ hk'; have := ui k hk; omega)
  replace o3 := o3.outs10 hU (fun k hk => by have := hNU _ hk; omega)
  replace b0 := Out.keep b0 hU b0.size (fun k hk => by have := hNU _ hk; omega)
  clear hNU hU
  clear o2
  generalize hM2 : (nmInst (⟨has2, .slice ba2 batch2.length bk2, batch2, .slice va2 rounds2.length vk2, rounds2, .slice da2 dec2.length dk2, dec2⟩ : InstQ) : Int) = M2 at *
  have hm2' : 0 ≤ M2 ∧ M2 ≤ 3145728 := by omega
  clear hm2 hM2
  go_wp2_with fail
  refine (markVotes_u W6.heap.size w7.heap.size _ L.length (voteCells L) (1 + M2) w13 o3 (by omega) (by omega) (by omega)).mono ?_
  rintro e w14 ⟨M3, rfl, hm3, hOn⟩
  have hU := hOn.outs10
  clear hOn
  have hNU : ∀ k, k ∈ List.range' W6.heap.size (w7.heap.size - W6.heap.size) → W6.heap.size ≤ k ∧ k < w7.heap.size := fun k hk => by have := List.mem_range'_1.1 hk; omega
  replace A0 := A0.outs hU (fun hk => by have := hNU _ hk; omega)
  replace S0 := S0.outs hU (fun hk => by have := hNU _ hk; omega)
  replace X0 := X0.outs hU (fun hk => by have := hNU _ hk; omega)
  replace Y0 := Y0.outs hU (fun hk => by have := hNU _ hk; omega)
  replace os := instK.own_out os hU (fun k hk hk' => by have := hNU _ hk'; have := us k hk; omega)
  replace oi := instK.own_out oi hU (fun k hk hk' => by have := hNU _ hk'; have := ui k hk; omega)
  replace b0 := Out.keep b0 hU b0.size (fun k hk => by have := hNU _ hk; omega)
  clear hNU hU
  clear o3
  have hpos : ¬ (M3 < 0) := by omega
  clear hm3
  have p0 := Y0.cell 0 _ rfl
  have p1 := Y0.cell 1 _ rfl
  have p2 := Y0.cell 2 _ rfl
  have p3 := Y0.cell 3 _ rfl
  have p4 := Y0.cell 4 _ rfl
  have p5 := Y0.cell 5 _ rfl
  have p6 := Y0.cell 6 _ rfl
  have p7 := Y0.cell 7 _ rfl
  have p8 := Y0.cell 8 _ rfl
  have r0 := S0.cell 0 _ rfl
  have r1 := S0.cell 1 _ rfl
  have r2 := S0.cell 2 _ rfl
  have r3 := S0.cell 3 _ rfl
  have r4 := S0.cell 4 _ rfl
  have r5 := S0.cell 5 _ rfl
  have r6 := S0.cell 6 _ rfl
  have r7 := S0.cell 7 _ rfl
  have r8 := S0.cell 8 _ rfl
  go_wp2_with fail
  clear p0 p1 p2 p3 p4 p5 p6 p7 p8
  clear r0 r1 r2 r3 r4 r5 r6 r7 r8
  refine (eqIR6_k D 0 false false 0 (⟨hasi, .slice bai batchi.length bki, batchi, .slice vai roundsi.length vki, roundsi, .slice dai deci.length dki, deci⟩ : InstQ) (⟨hass, .slice bas batchs.length bks, batchs, .slice vas roundss.length vks, roundss, .slice das decs.length dks, decs⟩ : InstQ) _ (instK.own_rd oi) (instK.own_rd os) (ei.trans es.symm) hli).mono ?_
  rintro e w15 ⟨rfl, hb⟩
  replace A0 := A0.below hb
  replace S0 := S0.below hb
  replace X0 := X0.below hb
  replace Y0 := Y0.below hb
  replace os := instK.own_out (F := []) os (Out.of_below hb) (fun _ _ => by simp)
  replace oi := instK.own_out (F := []) oi (Out.of_below hb) (fun _ _ => by simp)
  replace b0 := b0.trans (hb.mono b0.size)
  clear hb
  have p0 := Y0.cell 0 _ rfl
  have p1 := Y0.cell 1 _ rfl
  have p2 := Y0.cell 2 _ rfl
  have p3 := Y0.cell 3 _ rfl
  have p4 := Y0.cell 4 _ rfl
  have p5 := Y0.cell 5 _ rfl
  have p6 := Y0.cell 6 _ rfl
  have p7 := Y0.cell 7 _ rfl
  have p8 := Y0.cell 8 _ rfl
  go_wp2_with fail
  clear p0 p1 p2 p3 p4 p5 p6 p7 p8
  have hmi := nmInst_le (⟨hasi, .slice bai batchi.length bki, batchi, .slice vai roundsi.length vki, roundsi, .slice dai deci.length dki, deci⟩ : InstQ)
  refine (markIR6_k D 0 false false 0 (⟨hasi, .slice bai batchi.length bki, batchi, .slice vai roundsi.length vki, roundsi, .slice dai deci.length dki, deci⟩ : InstQ) 1 w15 oi ni hli (by omega) (by omega)).mono ?_
  rintro e w16 ⟨rfl, om, hU⟩
  have hNU : ∀ k, k ∈ instK.foot (⟨hasi, .slice bai batchi.length bki, batchi, .slice vai roundsi.length vki, roundsi, .slice dai deci.length dki, deci⟩ : InstQ) → w7.heap.size ≤ k ∧ k < w8.heap.size := ui
  replace A0 := A0.outs hU (fun hk => by have := hNU _ hk; omega)
  replace S0 := S0.outs hU (fun hk => by have := hNU _ hk; omega)
  replace X0 := X0.outs hU (fun hk => by have := hNU _ hk; omega)
  replace Y0 := Y0.outs hU (fun hk => by have := hNU _ hk; omega)
  replace os := instK.own_out os hU (fun k hk hk' => by have := hNU _ hk'; have := us k hk; omega)
  replace b0 := Out.keep b0 hU b0.size (fun k hk => by have := hNU _ hk; omega)
  clear hNU hU
  clear oi
  have rm := instK.own_rd om
  clear om
  have hmm : Hid (∀ w', Below w16.heap.size w16 w' → instK.rd w' (mkInst 1 (⟨hasi, .slice bai batchi.length bki, batchi, .slice vai roundsi.length vki, roundsi, .slice dai deci.length dki, deci⟩ : InstQ))) := fun w' hb => instK.rd_below rm hb
  have hbq : Below w16.heap.size w16 w16 := Below.refl _ _
  have hhe := fun w h => heldIR6_k D 0 false false 0 (⟨hasi, .slice bai batchi.length bki, batchi, .slice vai roundsi.length vki, roundsi, .slice dai deci.length dki, deci⟩ : InstQ) 1 w h hli (by omega) (by omega)
  generalize hMi : (nmInst (⟨hasi, .slice bai batchi.length bki, batchi, .slice vai roundsi.length vki, roundsi, .slice dai deci.length dki, deci⟩ : InstQ) : Int) = Mi at *
  have hmi' : 0 ≤ Mi ∧ Mi ≤ 3145728 := by omega
  have hpi : ¬ (1 + Mi < 0) := by omega
  have hne : ((1 + Mi) != (1 + Mi)) = false := by simp
  clear hmi hMi rm
  have p0 := Y0.cell 0 _ rfl
  have p1 := Y0.cell 1 _ rfl
  have p2 := Y0.cell 2 _ rfl
  have p3 := Y0.cell 3 _ rfl
  have p4 := Y0.cell 4 _ rfl
  have p5 := Y0.cell 5 _ rfl
  have p6 := Y0.cell 6 _ rfl
  have p7 := Y0.cell 7 _ rfl
  have p8 := Y0.cell 8 _ rfl
  go_wp2_with fail
  clear p0 p1 p2 p3 p4 p5 p6 p7 p8
  refine (hhe w16 (hmm.out _ hbq)).mono ?_
  rintro e w17 ⟨rfl, hb⟩
  replace hbq := hbq.trans (hb.mono hbq.size)
  replace A0 := A0.below hb
  replace S0 := S0.below hb
  replace X0 := X0.below hb
  replace Y0 := Y0.below hb
  replace os := instK.own_out (F := []) os (Out.of_below hb) (fun _ _ => by simp)
  replace b0 := b0.trans (hb.mono b0.size)
  clear hb
  have p0 := A0.cell 0 _ rfl
  have p1 := A0.cell 1 _ rfl
  have p2 := A0.cell 2 _ rfl
  have p3 := A0.cell 3 _ rfl
  go_wp2_with fail
  clear p0 p1 p2 p3
  refine (hto w17 (hrb w17 b0) hl).mono ?_
  rintro e w18 ⟨q5, rfl, e5, o5, n5, g5, hb⟩
  replace hbq := hbq.trans (hb.mono hbq.size)
  replace A0 := A0.below hb
  replace S0 := S0.below hb
  replace X0 := X0.below hb
  replace Y0 := Y0.below hb
  replace os := instK.own_out (F := []) os (Out.of_below hb) (fun _ _ => by simp)
  replace b0 := b0.trans (hb.mono b0.size)
  clear hb
  clear n5 g5
  go_wp2_with fail
  refine (htoT w18 (hT.below b0) hl').mono ?_
  rintro e w19 ⟨a5, c5, rfl, t5, hb⟩
  replace o5 := instK.own_out (F := []) o5 (Out.of_below hb) (fun _ _ => by simp)
  replace hbq := hbq.trans (hb.mono hbq.size)
  replace A0 := A0.below hb
  replace S0 := S0.below hb
  replace X0 := X0.below hb
  replace Y0 := Y0.below hb
  replace os := instK.own_out (F := []) os (Out.of_below hb) (fun _ _ => by simp)
  replace b0 := b0.trans (hb.mono b0.size)
  clear hb
  go_wp2_with fail
  refine (him q5 a5 c5 e5 w19 (hG.below b0) (instK.own_rd o5) t5.lies (by rw [hqn q5 e5]; exact hl) hl').mono ?_
  rintro e w20 ⟨qh, rfl, eh, oh, nh, gh, hb⟩
  replace hbq := hbq.trans (hb.mono hbq.size)
  replace A0 := A0.below hb
  replace S0 := S0.below hb
  replace X0 := X0.below hb
  replace Y0 := Y0.below hb
  replace os := instK.own_out (F := []) os (Out.of_below hb) (fun _ _ => by simp)
  replace b0 := b0.trans (hb.mono b0.size)
  clear hb
  clear nh gh him e5 t5 o5 hto htoT
  have hlh : InstQ.n qh ≤ 1048576 := by have := hqs qh eh; omega
  obtain ⟨hash, vbh, batchh, vrh, roundsh, vdh, dech⟩ := qh
  obtain ⟨bah, bkh, rfl⟩ : ∃ a c, vbh = .slice a batchh.length c := oh.1.shape
  obtain ⟨vah, vkh, rfl⟩ : ∃ a c, vrh = .slice a roundsh.length c := oh.2.1.shape
  obtain ⟨dah, dkh, rfl⟩ : ∃ a c, vdh = .slice a dech.length c := oh.2.2.shape
  have H0 := Blk.new w20 39 #[.int .i64 D, .int .i64 0, .bool false, .bool false, .int .i64 0, .bool hash, .slice bah batchh.length bkh, .slice vah roundsh.length vkh, .slice dah dech.length dkh]
  have hb : Below w20.heap.size w20 (w20.alloc (.cells #[.int .i64 D, .int .i64 0, .bool false, .bool false, .int .i64 0, .bool hash, .slice bah batchh.length bkh, .slice vah roundsh.length vkh, .slice dah dech.length dkh] 39)) := by go_grown
  replace hbq := hbq.trans (hb.mono hbq.size)
  replace A0 := A0.below hb
  replace S0 := S0.below hb
  replace X0 := X0.below hb
  replace Y0 := Y0.below hb
  replace os := instK.own_out (F := []) os (Out.of_below hb) (fun _ _ => by simp)
  replace oh := instK.own_out (F := []) oh (Out.of_below hb) (fun _ _ => by simp)
  replace b0 := b0.trans (hb.mono b0.size)
  clear hb
  have r0 := S0.cell 0 _ rfl
  have r1 := S0.cell 1 _ rfl
  have r2 := S0.cell 2 _ rfl
  have r3 := S0.cell 3 _ rfl
  have r4 := S0.cell 4 _ rfl
  have r5 := S0.cell 5 _ rfl
  have r6 := S0.cell 6 _ rfl
  have r7 := S0.cell 7 _ rfl
  have r8 := S0.cell 8 _ rfl
  go_wp2_with fail
  clear r0 r1 r2 r3 r4 r5 r6 r7 r8
  generalize w20.alloc (.cells #[.int .i64 D, .int .i64 0, .bool false, .bool false, .int .i64 0, .bool hash, .slice bah batchh.length bkh, .slice vah roundsh.length vkh, .slice dah dech.length dkh] 39) = W20 at *
  refine (eqIR6_k D 0 false false 0 (⟨hash, .slice bah batchh.length bkh, batchh, .slice vah roundsh.length vkh, roundsh, .slice dah dech.length dkh, dech⟩ : InstQ) (⟨hass, .slice bas batchs.length bks, batchs, .slice vas roundss.length vks, roundss, .slice das decs.length dks, decs⟩ : InstQ) _ (instK.own_rd oh) (instK.own_rd os) (eh.trans es.symm) hlh).mono ?_
  rintro e w21 ⟨rfl, hb⟩
  replace hbq := hbq.trans (hb.mono hbq.size)
  replace A0 := A0.below hb
  replace S0 := S0.below hb
  replace X0 := X0.below hb
  replace Y0 := Y0.below hb
  replace H0 := H0.below hb
  replace os := instK.own_out (F := []) os (Out.of_below hb) (fun _ _ => by simp)
  replace oh := instK.own_out (F := []) oh (Out.of_below hb) (fun _ _ => by simp)
  replace b0 := b0.trans (hb.mono b0.size)
  clear hb
  have p0 := Y0.cell 0 _ rfl
  have p1 := Y0.cell 1 _ rfl
  have p2 := Y0.cell 2 _ rfl
  have p3 := Y0.cell 3 _ rfl
  have p4 := Y0.cell 4 _ rfl
  have p5 := Y0.cell 5 _ rfl
  have p6 := Y0.cell 6 _ rfl
  have p7 := Y0.cell 7 _ rfl
  have p8 := Y0.cell 8 _ rfl
  go_wp2_with fail
  clear p0 p1 p2 p3 p4 p5 p6 p7 p8
  refine (hhe w21 (hmm.out _ hbq)).mono ?_
  rintro e w22 ⟨rfl, hb⟩
  replace b0 := b0.trans (hb.mono b0.size)
  clear hb hhe hmm hbq A0 S0 X0 Y0 H0 os oh
  go_wp2
  go_ret
  exact ⟨rfl, b0⟩

end Go.Proofs.YtjnkldlkbjldcaaGreatDoor

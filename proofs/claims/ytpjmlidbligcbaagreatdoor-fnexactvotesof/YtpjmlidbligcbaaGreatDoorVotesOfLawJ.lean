/- The law FnExactVotesOf, walked: at every instance that can be read it answers true, and it writes into nothing that was there. The condition: impl.rules starts as the program's text lays it. -/
import Derived.Test.YtpjmlidbligcbaaGreatDoorVo10
import Derived.Test.YtpjmlidbligcbaaGreatDoorVt10
import Derived.Test.YtpjmlidbligcbaaGreatDoorVom
import Derived.Test.YtpjmlidbligcbaaGreatDoorI6n
import Derived.Test.YtpjmlidbligcbaaGreatDoorGH
namespace Go.Proofs.YtpjmlidbligcbaaGreatDoor
open Go.RowKit
open Go.BigFrame
set_option linter.unusedVariables false
set_option maxRecDepth 100000
set_option linter.unusedSimpArgs false

theorem Only.outs10 {lo hi : Nat} {w w' : World} (h : Only lo hi w w') : Out (List.range' lo (hi - lo)) w w' := ⟨h.os, h.tape, h.output, h.size, fun k hk hn => h.block k hk (by
  rcases Nat.lt_or_ge k lo with h1 | h1
  · exact Or.inl h1
  · refine Or.inr ?_
    rcases Nat.lt_or_ge k hi with h2 | h2
    · exact absurd (List.mem_range'_1.2 ⟨h1, by omega⟩) hn
    · exact h2)⟩
theorem OwnS.outs10 {e size lo hi n : Nat} {w w' : World} {v : Value} {xs : List Value} {F : List Nat} (o : OwnS e size lo hi w v n xs) (hU : Out F w w') (hF : ∀ k ∈ F, k < lo ∨ hi ≤ k) : OwnS e size lo hi w' v n xs :=
  ⟨own_outs o.1 hU (fun k hk hk' => by
    have h1 : v.ownBlock = some k := by simpa [blk] using hk
    have := hF k hk'
    have := (o.1.lt k h1).1
    have := o.2 k h1
    omega), o.2⟩
theorem specVO_e (p : InstQ) (x : InstE) (hx : p.e = x) (w : World) (h : instK.rd w p) (hl : p.n ≤ 1048576) :
    Calls Tryz.prog 47 #[.agg #[.bool p.has, p.vb, p.vr, p.vd]] w fun e w' => ∃ a c, e = .returned (.agg #[.int .i64 (insF x), .slice a (voL x).length c]) ∧ w'.ownsRow w.heap.size 79 4 (.slice a (voL x).length c) (voL x).length (voteCells (voL x)) ∧ Below w.heap.size w w' := by
  subst hx
  exact specVotesOf_any p w h hl
theorem implVO_e (p : InstQ) (x : InstE) (hx : p.e = x) (w : World) (hG : Rul w) (h : instK.rd w p) (hl : p.n ≤ 1048576) :
    Calls Tryz.prog 43 #[.agg #[.bool p.has, p.vb, p.vr, p.vd]] w fun e w' => ∃ a c, e = .returned (.agg #[.int .i64 (insF x), .slice a (voL x).length c]) ∧ w'.ownsRow w.heap.size 79 4 (.slice a (voL x).length c) (voL x).length (voteCells (voL x)) ∧ Below w.heap.size w w' := by
  subst hx
  exact implVotesOf_any p w hG h hl

set_option maxRecDepth 100000 in
set_option maxHeartbeats 8000000 in
theorem votesOfLaw (p : InstQ) (w : World) (hG : Rul w) (h : instK.rd w p) (hn : p.wf) :
    Calls Tryz.prog 7 #[.agg #[.bool p.has, p.vb, p.vr, p.vd]] w fun e w' => e = .returned (.bool true) ∧ Below w.heap.size w w' := by
  have hsz := fun w h => szInstance_k p 1048576 w h hn (by omega) (by omega)
  have hto := fun w h hl => toInstance_k p w h hl
  have hsp := fun q (hq : InstQ.e q = p.e) w h hl => specVO_e q _ hq w h hl
  have him := fun q (hq : InstQ.e q = p.e) w hG h hl => implVO_e q _ hq w hG h hl
  have hqn : ∀ q : InstQ, q.e = p.e → q.n = p.n := fun q hq => inst_n hq
  have heq := fun (q q' : InstQ) (hq : q.e = p.e) (hq' : q'.e = p.e) w h h' hl => eqInstance_k q q' w h h' (hq.trans hq'.symm) hl
  have hrb := fun (w' : World) hb => instK.rd_below (w' := w') h hb
  have hL27 : (voL p.e).length ≤ 27 := voL_len p.e
  generalize insF p.e = D at *
  generalize voL p.e = L at *
  generalize hpe : p.e = pe at *
  generalize hpn : p.n = pn at *
  obtain ⟨has, vb, batch, vr, rounds, vd, dec⟩ := p
  obtain ⟨ba, bk, rfl⟩ : ∃ a c, vb = .slice a batch.length c := h.1.shape
  obtain ⟨va, vk, rfl⟩ : ∃ a c, vr = .slice a rounds.length c := h.2.1.shape
  obtain ⟨da, dk, rfl⟩ : ∃ a c, vd = .slice a dec.length c := h.2.2.shape
  dsimp only at hsz hto hrb
  have b0 : Below w.heap.size w (w.alloc (.cells #[.bool has, .slice ba batch.length bk, .slice va rounds.length vk, .slice da dec.length dk] 84)) := by go_grown
  have A0 := Blk.new w 84 #[.bool has, .slice ba batch.length bk, .slice va rounds.length vk, .slice da dec.length dk]
  go_enter Tryz.func7, Tryz.ntmps7
  go_wp2_with fail
  generalize w.alloc (.cells #[.bool has, .slice ba batch.length bk, .slice va rounds.length vk, .slice da dec.length dk] 84) = W at *
  refine (hsz W (hrb W b0)).mono ?_
  rintro e w1 ⟨r, rfl, hr, hb⟩
  replace A0 := A0.below hb
  replace b0 := b0.trans (hb.mono b0.size)
  clear hb
  clear hsz
  by_cases hneg : r < 0
  · go_wp2
    go_ret
    exact ⟨rfl, b0⟩
  have hl : (pn : Int) + r = 1048576 := hr (by omega)
  clear hr
  replace hl : pn ≤ 1048576 := by omega
  have p0 := A0.cell 0 _ rfl
  have p1 := A0.cell 1 _ rfl
  have p2 := A0.cell 2 _ rfl
  have p3 := A0.cell 3 _ rfl
  go_wp2_with fail
  clear p0 p1 p2 p3
  clear hneg
  refine (hto w1 (hrb w1 b0) hl).mono ?_
  rintro e w2 ⟨q1, rfl, e1, o1, n1, g1, hb⟩
  replace A0 := A0.below hb
  replace b0 := b0.trans (hb.mono b0.size)
  clear hb
  clear n1 g1
  go_wp2_with fail
  refine (hsp q1 e1 w2 (instK.own_rd o1) (by rw [hqn q1 e1]; exact hl)).mono ?_
  rintro e w5 ⟨xs, zs, rfl, rs, hb⟩
  have hw2 := A0.lt
  have h25 := hb.size
  have rs' : OwnS 79 4 w2.heap.size w5.heap.size w5 (.slice xs L.length zs) L.length (voteCells L) := OwnS.of rs
  replace rs := rs'
  clear rs' hsp o1 e1
  replace A0 := A0.below hb
  replace b0 := b0.trans (hb.mono b0.size)
  clear hb
  have S0 := Blk.new w5 73 #[.int .i64 D, .slice xs L.length zs]
  have hb : Below w5.heap.size w5 (w5.alloc (.cells #[.int .i64 D, .slice xs L.length zs] 73)) := by go_grown
  replace A0 := A0.below hb
  replace rs := rs.below hb
  replace b0 := b0.trans (hb.mono b0.size)
  clear hb
  have p0 := A0.cell 0 _ rfl
  have p1 := A0.cell 1 _ rfl
  have p2 := A0.cell 2 _ rfl
  have p3 := A0.cell 3 _ rfl
  go_wp2_with fail
  clear p0 p1 p2 p3
  generalize w5.alloc (.cells #[.int .i64 D, .slice xs L.length zs] 73) = W5 at *
  refine (hto W5 (hrb W5 b0) hl).mono ?_
  rintro e w6 ⟨q2, rfl, e2, o2, n2, g2, hb⟩
  have hS5 := S0.lt
  have u2 : ∀ k ∈ instK.foot q2, w5.heap.size < k ∧ k < w6.heap.size := fun k hk => ⟨by have := g2 k hk; omega, instK.own_lt o2 k hk⟩
  replace A0 := A0.below hb
  replace S0 := S0.below hb
  replace rs := rs.below hb
  replace b0 := b0.trans (hb.mono b0.size)
  clear hb
  clear g2
  have hw6 : w5.heap.size < w6.heap.size := S0.lt
  have hl2 : InstQ.n q2 ≤ 1048576 := by rw [hqn q2 e2]; exact hl
  have hi2 := fun w hG h => him q2 e2 w hG h hl2
  have he2 := fun q' hq' w h h' => heq q2 q' e2 hq' w h h' hl2
  have hmk := fun w h => markInstance_k q2 1 w h n2 hl2 (by omega) (by omega)
  have hmn := nmInst_le q2
  generalize hF2 : instK.foot q2 = F2 at *
  generalize hM2 : (nmInst q2 : Int) = M2 at *
  have hm2 : 0 ≤ M2 ∧ M2 ≤ 4194304 := by omega
  clear hM2 hmn
  obtain ⟨has2, vb2, batch2, vr2, rounds2, vd2, dec2⟩ := q2
  obtain ⟨ba2, bk2, rfl⟩ : ∃ a c, vb2 = .slice a batch2.length c := o2.1.shape
  obtain ⟨va2, vk2, rfl⟩ : ∃ a c, vr2 = .slice a rounds2.length c := o2.2.1.shape
  obtain ⟨da2, dk2, rfl⟩ : ∃ a c, vd2 = .slice a dec2.length c := o2.2.2.shape
  dsimp only at hi2 he2 hmk
  have X0 := Blk.new w6 28 #[.bool has2, .slice ba2 batch2.length bk2, .slice va2 rounds2.length vk2, .slice da2 dec2.length dk2]
  have hb : Below w6.heap.size w6 (w6.alloc (.cells #[.bool has2, .slice ba2 batch2.length bk2, .slice va2 rounds2.length vk2, .slice da2 dec2.length dk2] 28)) := by go_grown
  replace A0 := A0.below hb
  replace S0 := S0.below hb
  replace o2 := instK.own_out (F := []) o2 (Out.of_below hb) (fun _ _ => by simp)
  replace rs := rs.below hb
  replace b0 := b0.trans (hb.mono b0.size)
  clear hb
  have p0 := X0.cell 0 _ rfl
  have p1 := X0.cell 1 _ rfl
  have p2 := X0.cell 2 _ rfl
  have p3 := X0.cell 3 _ rfl
  go_wp2_with fail
  clear p0 p1 p2 p3
  generalize w6.alloc (.cells #[.bool has2, .slice ba2 batch2.length bk2, .slice va2 rounds2.length vk2, .slice da2 dec2.length dk2] 28) = W6 at *
  refine (hi2 W6 (hG.below b0) (instK.own_rd o2)).mono ?_
  rintro e w8 ⟨xi, zi, rfl, ri, hb⟩
  have hX6 := X0.lt
  have ri' : OwnS 79 4 W6.heap.size w8.heap.size w8 (.slice xi L.length zi) L.length (voteCells L) := OwnS.of ri
  replace ri := ri'
  clear ri' hi2
  have hw8 := hb.size
  replace A0 := A0.below hb
  replace S0 := S0.below hb
  replace X0 := X0.below hb
  replace o2 := instK.own_out (F := []) o2 (Out.of_below hb) (fun _ _ => by simp)
  replace rs := rs.below hb
  replace b0 := b0.trans (hb.mono b0.size)
  clear hb
  have Y0 := Blk.new w8 73 #[.int .i64 D, .slice xi L.length zi]
  have hb : Below w8.heap.size w8 (w8.alloc (.cells #[.int .i64 D, .slice xi L.length zi] 73)) := by go_grown
  replace A0 := A0.below hb
  replace S0 := S0.below hb
  replace X0 := X0.below hb
  replace o2 := instK.own_out (F := []) o2 (Out.of_below hb) (fun _ _ => by simp)
  replace rs := rs.below hb
  replace ri := ri.below hb
  replace b0 := b0.trans (hb.mono b0.size)
  clear hb
  have r0 := S0.cell 0 _ rfl
  have r1 := S0.cell 1 _ rfl
  go_wp2_with fail
  clear r0 r1
  generalize w8.alloc (.cells #[.int .i64 D, .slice xi L.length zi] 73) = W8 at *
  refine (eqVtR_true D xi xs zi zs L W8 ri.lies rs.lies (by omega)).mono ?_
  rintro e w9 ⟨rfl, hb⟩
  replace A0 := A0.below hb
  replace S0 := S0.below hb
  replace X0 := X0.below hb
  replace Y0 := Y0.below hb
  replace o2 := instK.own_out (F := []) o2 (Out.of_below hb) (fun _ _ => by simp)
  replace rs := rs.below hb
  replace ri := ri.below hb
  replace b0 := b0.trans (hb.mono b0.size)
  clear hb
  go_wp2_with fail
  have hW : Below w9.heap.size w9 w9.drew := (Below.refl _ _).drew
  have hnn : Nonempty (Lat w9) := ⟨⟨w9, Below.refl _ _⟩⟩
  have k0 := A0.lat 0 _ rfl
  have k1 := A0.lat 1 _ rfl
  have k2 := A0.lat 2 _ rfl
  have k3 := A0.lat 3 _ rfl
  have l0 := X0.lat 0 _ rfl
  have l1 := X0.lat 1 _ rfl
  have l2 := X0.lat 2 _ rfl
  have l3 := X0.lat 3 _ rfl
  refine text_begin (S := fun w' => ∃ u : Lat w9, w' = u.val) (by kernel_rfl) ?_
  refine seg_range [(0, 2)] 3 (by kernel_rfl) (by kernel_rfl) (by kernel_rfl) (by kernel_rfl) (by kernel_rfl) ⟨⟨_, hW⟩, rfl⟩ ?_
  simp only [pickR, List.toList_toArray, List.flatMap_cons, List.flatMap_nil, List.drop_succ_cons, List.drop_zero, List.take_succ_cons, List.take_zero, List.cons_append, List.nil_append, List.append_nil]
  repeat go_big_quiet_step (fail)
  refine wpQuiet_nil ?_
  refine call_at 2 (some 29) 50 #[.agg #[.bool has, .slice ba batch.length bk, .slice va rounds.length vk, .slice da dec.length dk]] 2 (by kernel_rfl) (by kernel_rfl) (by kernel_rfl) (by kernel_rfl) (by kernel_rfl) ?_
  refine (hto _ (hrb _ (b0.trans (hW.mono b0.size))) hl).mono ?_
  rintro e wy ⟨q9, rfl, e9, o9, n9, g9, hb9⟩
  replace hW := hW.trans (hb9.mono hW.size)
  clear n9 g9
  clear hb9
  refine ⟨_, rfl, ⟨⟨_, hW⟩, rfl⟩, ?_⟩
  simp only [Act.put, List.setIfInBounds_toArray, List.set_cons_zero, List.set_cons_succ]
  refine call_at 3 (some 30) 52 #[.agg #[.bool has2, .slice ba2 batch2.length bk2, .slice va2 rounds2.length vk2, .slice da2 dec2.length dk2], .agg #[.bool q9.has, q9.vb, q9.vr, q9.vd]] 1 (by kernel_rfl) (by kernel_rfl) (by kernel_rfl) (by kernel_rfl) (by kernel_rfl) ?_
  refine (he2 q9 e9 _ (instK.rd_below (instK.own_rd o2) hW) (instK.own_rd o9)).mono ?_
  rintro e wy ⟨rfl, hb9⟩
  replace hW := hW.trans (hb9.mono hW.size)
  clear hb9
  refine ⟨_, rfl, ⟨⟨_, hW⟩, rfl⟩, ?_⟩
  simp only [Act.put, List.setIfInBounds_toArray, List.set_cons_zero, List.set_cons_succ]
  refine seg_range [(4, 1)] 0 (by kernel_rfl) (by kernel_rfl) (by kernel_rfl) (by kernel_rfl) (by kernel_rfl) ⟨⟨_, hW⟩, rfl⟩ ?_
  simp only [pickR, List.toList_toArray, List.flatMap_cons, List.flatMap_nil, List.drop_succ_cons, List.drop_zero, List.take_succ_cons, List.take_zero, List.cons_append, List.nil_append, List.append_nil]
  repeat go_big_quiet_step (fail)
  refine wpQuiet_nil ?_
  refine text_end (by kernel_rfl) ?_
  clear k0 k1 k2 k3 l0 l1 l2 l3 hnn o9 e9 he2 heq
  replace A0 := A0.below hW
  replace S0 := S0.below hW
  replace X0 := X0.below hW
  replace Y0 := Y0.below hW
  replace o2 := instK.own_out (F := []) o2 (Out.of_below hW) (fun _ _ => by simp)
  replace rs := rs.below hW
  replace ri := ri.below hW
  replace b0 := b0.trans (hW.mono b0.size)
  clear hW
  have p0 := X0.cell 0 _ rfl
  have p1 := X0.cell 1 _ rfl
  have p2 := X0.cell 2 _ rfl
  have p3 := X0.cell 3 _ rfl
  go_wp2_with fail
  clear p0 p1 p2 p3
  refine (hmk _ o2).mono ?_
  rintro e w13 ⟨rfl, _, hU⟩
  clear hmk
  have hNU : ∀ k, k ∈ F2 → w5.heap.size < k ∧ k < w6.heap.size := u2
  replace A0 := A0.outs hU (fun hk => by have := hNU _ hk; omega)
  replace S0 := S0.outs hU (fun hk => by have := hNU _ hk; omega)
  replace Y0 := Y0.outs hU (fun hk => by have := hNU _ hk; omega)
  replace rs := rs.outs10 hU (fun k hk => by have := hNU _ hk; omega)
  replace ri := ri.outs10 hU (fun k hk => by have := hNU _ hk; omega)
  replace b0 := Out.keep b0 hU b0.size (fun k hk => by have := hNU _ hk; omega)
  clear hNU hU o2 X0
  have hpos : ¬ (1 + M2 < 0) := by omega
  have p0 := Y0.cell 0 _ rfl
  have p1 := Y0.cell 1 _ rfl
  have r0 := S0.cell 0 _ rfl
  have r1 := S0.cell 1 _ rfl
  go_wp2_with fail
  clear p0 p1
  clear r0 r1
  refine (eqVtR_true D xi xs zi zs L _ ri.lies rs.lies (by omega)).mono ?_
  rintro e w15 ⟨rfl, hb⟩
  replace A0 := A0.below hb
  replace S0 := S0.below hb
  replace Y0 := Y0.below hb
  replace rs := rs.below hb
  replace ri := ri.below hb
  replace b0 := b0.trans (hb.mono b0.size)
  clear hb
  have p0 := Y0.cell 0 _ rfl
  have p1 := Y0.cell 1 _ rfl
  go_wp2_with fail
  clear p0 p1
  refine (markVtR_any _ _ D _ L.length _ 1 w15 ri (by omega) (by omega) (by omega)).mono ?_
  rintro e w16 ⟨rfl, om, hU⟩
  have hNU : ∀ k, k ∈ List.range' W6.heap.size (w8.heap.size - W6.heap.size) → W6.heap.size ≤ k ∧ k < w8.heap.size := fun k hk => by have := List.mem_range'_1.1 hk; omega
  have hV := hU.outs10
  replace A0 := A0.outs hV (fun hk => by have := hNU _ hk; omega)
  replace S0 := S0.outs hV (fun hk => by have := hNU _ hk; omega)
  replace Y0 := Y0.outs hV (fun hk => by have := hNU _ hk; omega)
  replace rs := rs.outs10 hV (fun k hk => by have := hNU _ hk; omega)
  replace b0 := Out.keep b0 hV b0.size (fun k hk => by have := hNU _ hk; omega)
  clear hNU hV hU ri
  have hmm : Hid (∀ w', Below w16.heap.size w16 w' → VoteRow w' xi (voteMarks 1 L.length)) := fun w' hb => VoteRow.below om.lies hb
  have hbq : Below w16.heap.size w16 w16 := Below.refl _ _
  have hhe := fun w h => heldVtR_true D xi L.length zi 1 w h (by omega) (by omega) (by omega)
  generalize hMi : ((L.length * 4 : Nat) : Int) = Mi at *
  have hmi' : 0 ≤ Mi ∧ Mi ≤ 4194304 := by omega
  have hpi : ¬ (1 + Mi < 0) := by omega
  have hne : ((1 + Mi) != (1 + Mi)) = false := by simp
  clear hMi om
  have p0 := Y0.cell 0 _ rfl
  have p1 := Y0.cell 1 _ rfl
  go_wp2_with fail
  clear p0 p1
  refine (hhe w16 (hmm.out _ hbq)).mono ?_
  rintro e w17 ⟨rfl, hb⟩
  replace hbq := hbq.trans (hb.mono hbq.size)
  replace A0 := A0.below hb
  replace S0 := S0.below hb
  replace Y0 := Y0.below hb
  replace rs := rs.below hb
  replace b0 := b0.trans (hb.mono b0.size)
  clear hb
  have p0 := A0.cell 0 _ rfl
  have p1 := A0.cell 1 _ rfl
  have p2 := A0.cell 2 _ rfl
  have p3 := A0.cell 3 _ rfl
  go_wp2_with fail
  clear p0 p1 p2 p3
  refine (hto w17 (hrb w17 b0) hl).mono ?_
  rintro e w18 ⟨q5, rfl, e5, o5, n5, g5, hb⟩
  replace hbq := hbq.trans (hb.mono hbq.size)
  replace A0 := A0.below hb
  replace S0 := S0.below hb
  replace Y0 := Y0.below hb
  replace rs := rs.below hb
  replace b0 := b0.trans (hb.mono b0.size)
  clear hb
  clear n5 g5
  go_wp2_with fail
  refine (him q5 e5 w18 (hG.below b0) (instK.own_rd o5) (by rw [hqn q5 e5]; exact hl)).mono ?_
  rintro e w20 ⟨xh, zh, rfl, rh, hb⟩
  have rh' : OwnS 79 4 w18.heap.size w20.heap.size w20 (.slice xh L.length zh) L.length (voteCells L) := OwnS.of rh
  replace rh := rh'
  clear rh' him e5 o5 hto
  replace hbq := hbq.trans (hb.mono hbq.size)
  replace A0 := A0.below hb
  replace S0 := S0.below hb
  replace Y0 := Y0.below hb
  replace rs := rs.below hb
  replace b0 := b0.trans (hb.mono b0.size)
  clear hb
  have H0 := Blk.new w20 73 #[.int .i64 D, .slice xh L.length zh]
  have hb : Below w20.heap.size w20 (w20.alloc (.cells #[.int .i64 D, .slice xh L.length zh] 73)) := by go_grown
  replace hbq := hbq.trans (hb.mono hbq.size)
  replace A0 := A0.below hb
  replace S0 := S0.below hb
  replace Y0 := Y0.below hb
  replace rs := rs.below hb
  replace rh := rh.below hb
  replace b0 := b0.trans (hb.mono b0.size)
  clear hb
  have r0 := S0.cell 0 _ rfl
  have r1 := S0.cell 1 _ rfl
  go_wp2_with fail
  clear r0 r1
  generalize w20.alloc (.cells #[.int .i64 D, .slice xh L.length zh] 73) = W20 at *
  refine (eqVtR_true D xh xs zh zs L _ rh.lies rs.lies (by omega)).mono ?_
  rintro e w21 ⟨rfl, hb⟩
  replace hbq := hbq.trans (hb.mono hbq.size)
  replace A0 := A0.below hb
  replace S0 := S0.below hb
  replace Y0 := Y0.below hb
  replace H0 := H0.below hb
  replace rs := rs.below hb
  replace rh := rh.below hb
  replace b0 := b0.trans (hb.mono b0.size)
  clear hb
  have p0 := Y0.cell 0 _ rfl
  have p1 := Y0.cell 1 _ rfl
  go_wp2_with fail
  clear p0 p1
  refine (hhe w21 (hmm.out _ hbq)).mono ?_
  rintro e w22 ⟨rfl, hb⟩
  replace b0 := b0.trans (hb.mono b0.size)
  clear hb hhe hmm hbq A0 S0 Y0 H0 rs rh
  go_wp2
  go_ret
  exact ⟨rfl, b0⟩

end Go.Proofs.YtpjmlidbligcbaaGreatDoor

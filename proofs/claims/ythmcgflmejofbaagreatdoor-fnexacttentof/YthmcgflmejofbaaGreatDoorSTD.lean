/- The law FnExactTentOf, walked: at every replica that can be read it answers true, and it writes into nothing that was there. -/
import Derived.Test.YthmcgflmejofbaaGreatDoorSTC
import Derived.Test.YthmcgflmejofbaaGreatDoorSFB
import Derived.Test.YthmcgflmejofbaaGreatDoorSRAV
namespace Go.Proofs.YthmcgflmejofbaaGreatDoor
open Go.RowKit
open Go.BigFrame
set_option linter.unusedVariables false
set_option maxRecDepth 100000
set_option linter.unusedSimpArgs false

theorem specTentOf_e (q : RepQ) (x0 : RepE) (hx : q.e = x0) (x : Int) (w : World) (h : repK.own w q) (hl : q.n ≤ 1048576) :
    Calls Tryz.prog 37 #[.agg #[q.vd, q.vb, q.vt, q.vu, q.vn], .int .i64 x] w fun e w' => e = .returned (.agg #[.int .i64 (tenR x0 x).1, .int .i64 (tenR x0 x).2.1, .int .i64 (tenR x0 x).2.2]) ∧ Below w.heap.size w w' := by
  rw [← hx]
  exact specTentOf_any q x w h hl
theorem implTentOf_e (q : RepQ) (x0 : RepE) (hx : q.e = x0) (x : Int) (w : World) (hg : ErrT w) (h : repK.rd w q) (nd : NiceV q.vd) (nt : NiceV q.vt) (hl : q.n ≤ 1048576) :
    Calls Tryz.prog 33 #[.agg #[q.vd, q.vb, q.vt, q.vu, q.vn], .int .i64 x] w fun e w' => e = .returned (.agg #[.int .i64 (tenR x0 x).1, .int .i64 (tenR x0 x).2.1, .int .i64 (tenR x0 x).2.2]) ∧ Below w.heap.size w w' := by
  rw [← hx]
  exact implTentOf_any q x w hg h nd nt hl
set_option maxHeartbeats 1000000 in
theorem eqReplyTentOf_k (E1 E2 E3 : Int) (w : World) : Calls Tryz.prog 53 #[.agg #[.int .i64 E1, .int .i64 E2, .int .i64 E3], .agg #[.int .i64 E1, .int .i64 E2, .int .i64 E3]] w fun e w' => e = .returned (.bool true) ∧ Below w.heap.size w w' := by
  have n1 : (E1 != E1) = false := by simp
  have n2 : (E2 != E2) = false := by simp
  have n3 : (E3 != E3) = false := by simp
  go_enter Tryz.func53, Tryz.ntmps53
  go_wp2
  go_ret
  exact ⟨rfl, by go_grown⟩

set_option maxHeartbeats 8000000 in
theorem tentOfLaw (p : RepQ) (x : Int) (w : World) (hg : ErrT w) (h : repK.rd w p) (hn : p.wf) :
    Calls Tryz.prog 10 #[.agg #[p.vd, p.vb, p.vt, p.vu, p.vn], .int .i64 x] w fun e w' => e = .returned (.bool true) ∧ Below w.heap.size w w' := by
  have hsz := fun w h => szReplica_k p 1048576 w h hn (by omega) (by omega)
  have hto := fun w h hl => toReplica_k p w h hl
  have hsp := fun q (hq : RepQ.e q = p.e) w h hl => specTentOf_e q _ hq x w h hl
  have him := fun q (hq : RepQ.e q = p.e) w hg h n1 n2 hl => implTentOf_e q _ hq x w hg h n1 n2 hl
  have hqn : ∀ q : RepQ, q.e = p.e → q.n = p.n := fun q hq => rep_n hq
  have heq := fun (q q' : RepQ) (hq : q.e = p.e) (hq' : q'.e = p.e) w h h' hl => eqReplica_k q q' w h h' (hq.trans hq'.symm) hl
  have hrb := fun (w' : World) hb => repK.rd_below (w' := w') h hb
  generalize hpe : p.e = pe at *
  generalize hpn : p.n = pn at *
  generalize (tenR pe x).1 = E1 at hsp him
  generalize (tenR pe x).2.1 = E2 at hsp him
  generalize (tenR pe x).2.2 = E3 at hsp him
  have heqr := fun w => eqReplyTentOf_k E1 E2 E3 w
  obtain ⟨vd, done, vb, base, vt, tent, vu, undos, vn, now⟩ := p
  obtain ⟨da, dk, rfl⟩ : ∃ a c, vd = .slice a done.length c := h.1.shape
  obtain ⟨ba, bk, rfl⟩ : ∃ a c, vb = .slice a base.length c := h.2.1.shape
  obtain ⟨ta, tk, rfl⟩ : ∃ a c, vt = .slice a tent.length c := h.2.2.1.shape
  obtain ⟨ua, uk, rfl⟩ : ∃ a c, vu = .slice a undos.length c := h.2.2.2.1.shape
  obtain ⟨na, nk, rfl⟩ : ∃ a c, vn = .slice a now.length c := h.2.2.2.2.shape
  dsimp only at hsz hto hrb
  have b0 : Below w.heap.size w (w.alloc (.cells #[.slice da done.length dk, .slice ba base.length bk, .slice ta tent.length tk, .slice ua undos.length uk, .slice na now.length nk] 69)) := by go_grown
  have A0 := Blk.new w 69 #[.slice da done.length dk, .slice ba base.length bk, .slice ta tent.length tk, .slice ua undos.length uk, .slice na now.length nk]
  have hg1 := hg.below b0
  have p0 := A0.cell 0 _ rfl
  have p1 := A0.cell 1 _ rfl
  have p2 := A0.cell 2 _ rfl
  have p3 := A0.cell 3 _ rfl
  have p4 := A0.cell 4 _ rfl
  go_enter Tryz.func10, Tryz.ntmps10
  go_wp2_with fail
  generalize w.alloc (.cells #[.slice da done.length dk, .slice ba base.length bk, .slice ta tent.length tk, .slice ua undos.length uk, .slice na now.length nk] 69) = W at *
  clear p0 p1 p2 p3 p4
  refine (hsz W (hrb W b0)).mono ?_
  rintro e w1 ⟨r, rfl, hr, hb⟩
  replace A0 := A0.below hb
  replace hg1 := hg1.below hb
  replace b0 := b0.trans (hb.mono b0.size)
  clear hsz hb
  by_cases hneg : r < 0
  · go_wp2
    go_ret
    exact ⟨rfl, b0⟩
  have hl : (pn : Int) + r = 1048576 := hr (by omega)
  clear hr
  replace hl : pn ≤ 1048576 := by omega
  have p0 := A0.cell 0 _ rfl
  have p1 := A0.cell 1 _ rfl
  have p2 := A0.cell 2 _ rfl
  have p3 := A0.cell 3 _ rfl
  have p4 := A0.cell 4 _ rfl
  go_wp2_with fail
  clear hneg
  clear p0 p1 p2 p3 p4
  refine (hto w1 (hrb w1 b0) hl).mono ?_
  rintro e w2 ⟨q1, rfl, e1, o1, n1, g1, hb⟩
  replace A0 := A0.below hb
  replace hg1 := hg1.below hb
  replace b0 := b0.trans (hb.mono b0.size)
  clear hb n1 g1
  go_wp2_with fail
  refine (hsp q1 e1 w2 o1 (by rw [hqn q1 e1]; exact hl)).mono ?_
  rintro e w3 ⟨rfl, hb⟩
  replace A0 := A0.below hb
  replace hg1 := hg1.below hb
  replace b0 := b0.trans (hb.mono b0.size)
  clear hb o1 e1 hsp
  have bS : Below w3.heap.size w3 (w3.alloc (.cells #[.int .i64 E1, .int .i64 E2, .int .i64 E3] 60)) := by go_grown
  have SB := Blk.new w3 60 #[.int .i64 E1, .int .i64 E2, .int .i64 E3]
  replace A0 := A0.below bS
  replace hg1 := hg1.below bS
  replace b0 := b0.trans (bS.mono b0.size)
  clear bS
  have p0 := A0.cell 0 _ rfl
  have p1 := A0.cell 1 _ rfl
  have p2 := A0.cell 2 _ rfl
  have p3 := A0.cell 3 _ rfl
  have p4 := A0.cell 4 _ rfl
  go_wp2_with fail
  clear p0 p1 p2 p3 p4
  generalize w3.alloc (.cells #[.int .i64 E1, .int .i64 E2, .int .i64 E3] 60) = W3 at *
  refine (hto W3 (hrb W3 b0) hl).mono ?_
  rintro e w4 ⟨q3, rfl, e3, o3, n3, g3, hb⟩
  replace A0 := A0.below hb
  replace SB := SB.below hb
  replace hg1 := hg1.below hb
  replace b0 := b0.trans (hb.mono b0.size)
  clear hb n3 g3
  have nd3 := o3.1.niceV
  have nt3 := o3.2.2.1.niceV
  have hi3 := fun w hg h => him q3 e3 w hg h nd3 nt3 (by rw [hqn q3 e3]; exact hl)
  have he3 := fun q' hq' w h h' => heq q3 q' e3 hq' w h h' (by rw [hqn q3 e3]; exact hl)
  have r3 := repK.own_rd o3
  have rb3 := fun (w' : World) hb => repK.rd_below (w' := w') r3 hb
  clear o3 heq him nd3 nt3
  obtain ⟨vd3, done3, vb3, base3, vt3, tent3, vu3, undos3, vn3, now3⟩ := q3
  obtain ⟨da3, dk3, rfl⟩ : ∃ a c, vd3 = .slice a done3.length c := r3.1.shape
  obtain ⟨ba3, bk3, rfl⟩ : ∃ a c, vb3 = .slice a base3.length c := r3.2.1.shape
  obtain ⟨ta3, tk3, rfl⟩ : ∃ a c, vt3 = .slice a tent3.length c := r3.2.2.1.shape
  obtain ⟨ua3, uk3, rfl⟩ : ∃ a c, vu3 = .slice a undos3.length c := r3.2.2.2.1.shape
  obtain ⟨na3, nk3, rfl⟩ : ∃ a c, vn3 = .slice a now3.length c := r3.2.2.2.2.shape
  dsimp only at hi3 he3 rb3
  have X0 := Blk.new w4 28 #[.slice da3 done3.length dk3, .slice ba3 base3.length bk3, .slice ta3 tent3.length tk3, .slice ua3 undos3.length uk3, .slice na3 now3.length nk3]
  have bx : Below w4.heap.size w4 (w4.alloc (.cells #[.slice da3 done3.length dk3, .slice ba3 base3.length bk3, .slice ta3 tent3.length tk3, .slice ua3 undos3.length uk3, .slice na3 now3.length nk3] 28)) := by go_grown
  replace r3 := rb3 _ bx
  clear rb3
  have rb3 := fun (w' : World) hb => repK.rd_below (w' := w') r3 hb
  replace A0 := A0.below bx
  replace SB := SB.below bx
  replace hg1 := hg1.below bx
  replace b0 := b0.trans (bx.mono b0.size)
  have p0 := X0.cell 0 _ rfl
  have p1 := X0.cell 1 _ rfl
  have p2 := X0.cell 2 _ rfl
  have p3 := X0.cell 3 _ rfl
  have p4 := X0.cell 4 _ rfl
  clear bx
  go_wp2_with fail
  clear p0 p1 p2 p3 p4
  generalize w4.alloc (.cells #[.slice da3 done3.length dk3, .slice ba3 base3.length bk3, .slice ta3 tent3.length tk3, .slice ua3 undos3.length uk3, .slice na3 now3.length nk3] 28) = W4 at *
  refine (hi3 W4 hg1 r3).mono ?_
  rintro e w6 ⟨rfl, hb⟩
  replace A0 := A0.below hb
  replace X0 := X0.below hb
  replace SB := SB.below hb
  replace b0 := b0.trans (hb.mono b0.size)
  replace r3 := rb3 _ hb
  clear hb rb3 hi3 hg1
  have rb3 := fun (w' : World) hb => repK.rd_below (w' := w') r3 hb
  have bG : Below w6.heap.size w6 (w6.alloc (.cells #[.int .i64 E1, .int .i64 E2, .int .i64 E3] 60)) := by go_grown
  have GB := Blk.new w6 60 #[.int .i64 E1, .int .i64 E2, .int .i64 E3]
  replace A0 := A0.below bG
  replace X0 := X0.below bG
  replace SB := SB.below bG
  replace b0 := b0.trans (bG.mono b0.size)
  replace r3 := rb3 _ bG
  clear bG rb3
  have s0 := SB.cell 0 _ rfl
  have s1 := SB.cell 1 _ rfl
  have s2 := SB.cell 2 _ rfl
  have u0 := GB.cell 0 _ rfl
  have u1 := GB.cell 1 _ rfl
  have u2 := GB.cell 2 _ rfl
  go_wp2_with fail
  clear s0 s1 s2 u0 u1 u2 SB GB
  generalize w6.alloc (.cells #[.int .i64 E1, .int .i64 E2, .int .i64 E3] 60) = W6 at *
  have rb3 := fun (w' : World) hb => repK.rd_below (w' := w') r3 hb
  refine (heqr W6).mono ?_
  rintro e w7 ⟨rfl, hb⟩
  replace A0 := A0.below hb
  replace X0 := X0.below hb
  replace b0 := b0.trans (hb.mono b0.size)
  replace r3 := rb3 _ hb
  clear hb rb3 heqr
  go_wp2_with fail
  have hW : Below w7.heap.size w7 w7.drew := (Below.refl _ _).drew
  have hnn : Nonempty (Lat w7) := ⟨⟨w7, Below.refl _ _⟩⟩
  have k0 := A0.lat 0 _ rfl
  have k1 := A0.lat 1 _ rfl
  have k2 := A0.lat 2 _ rfl
  have k3 := A0.lat 3 _ rfl
  have k4 := A0.lat 4 _ rfl
  have l0 := X0.lat 0 _ rfl
  have l1 := X0.lat 1 _ rfl
  have l2 := X0.lat 2 _ rfl
  have l3 := X0.lat 3 _ rfl
  have l4 := X0.lat 4 _ rfl
  refine text_begin (S := fun w' => ∃ u : Lat w7, w' = u.val) (by kernel_rfl) ?_
  refine seg_range [(0, 2)] 3 (by kernel_rfl) (by kernel_rfl) (by kernel_rfl) (by kernel_rfl) (by kernel_rfl) ⟨⟨_, hW⟩, rfl⟩ ?_
  simp only [pickR, List.toList_toArray, List.flatMap_cons, List.flatMap_nil, List.drop_succ_cons, List.drop_zero, List.take_succ_cons, List.take_zero, List.cons_append, List.nil_append, List.append_nil]
  repeat go_big_quiet_step (fail)
  refine wpQuiet_nil ?_
  refine call_at 2 (some 29) 39 #[.agg #[.slice da done.length dk, .slice ba base.length bk, .slice ta tent.length tk, .slice ua undos.length uk, .slice na now.length nk]] 2 (by kernel_rfl) (by kernel_rfl) (by kernel_rfl) (by kernel_rfl) (by kernel_rfl) ?_
  refine (hto _ (hrb _ (b0.trans (hW.mono b0.size))) hl).mono ?_
  rintro e w9 ⟨q9, rfl, e9, o9, n9, g9, hb9⟩
  replace hW := hW.trans (hb9.mono hW.size)
  clear n9 g9
  clear hb9
  refine ⟨_, rfl, ⟨⟨_, hW⟩, rfl⟩, ?_⟩
  simp only [Act.put, List.setIfInBounds_toArray, List.set_cons_zero, List.set_cons_succ]
  refine call_at 3 (some 30) 40 #[.agg #[.slice da3 done3.length dk3, .slice ba3 base3.length bk3, .slice ta3 tent3.length tk3, .slice ua3 undos3.length uk3, .slice na3 now3.length nk3], .agg #[q9.vd, q9.vb, q9.vt, q9.vu, q9.vn]] 1 (by kernel_rfl) (by kernel_rfl) (by kernel_rfl) (by kernel_rfl) (by kernel_rfl) ?_
  refine (he3 q9 e9 _ (repK.rd_below r3 hW) (repK.own_rd o9)).mono ?_
  rintro e w9 ⟨rfl, hb9⟩
  replace hW := hW.trans (hb9.mono hW.size)
  clear hb9
  refine ⟨_, rfl, ⟨⟨_, hW⟩, rfl⟩, ?_⟩
  simp only [Act.put, List.setIfInBounds_toArray, List.set_cons_zero, List.set_cons_succ]
  refine seg_range [(4, 1)] 0 (by kernel_rfl) (by kernel_rfl) (by kernel_rfl) (by kernel_rfl) (by kernel_rfl) ⟨⟨_, hW⟩, rfl⟩ ?_
  simp only [pickR, List.toList_toArray, List.flatMap_cons, List.flatMap_nil, List.drop_succ_cons, List.drop_zero, List.take_succ_cons, List.take_zero, List.cons_append, List.nil_append, List.append_nil]
  repeat go_big_quiet_step (fail)
  refine wpQuiet_nil ?_
  refine text_end (by kernel_rfl) ?_
  replace b0 := b0.trans (hW.mono b0.size)
  go_wp2
  go_ret
  exact ⟨rfl, b0⟩

end Go.Proofs.YthmcgflmejofbaaGreatDoor

/- The law FnExactNextInstance, walked: at every list of instances that can be read it answers true, and it writes into nothing that was there. -/
import Derived.Test.YtmgkjcobdmdjmaaGreatDoorN7b
namespace Go.Proofs.YtmgkjcobdmdjmaaGreatDoor
open Go.RowKit
open Go.BigFrame
set_option linter.unusedVariables false
set_option maxRecDepth 100000
set_option linter.unusedSimpArgs false

theorem specNextInstance_e (v : Value) (ps : List InstQ) (ds : List InstE) (hx : ps.map InstQ.e = ds) (w : World) (h : instK.At w v ps) (hl : (ps.length + nmL InstQ.n ps) ≤ 1048576) :
    Calls Tryz.prog 46 #[v] w fun e w' => ∃ (v' : Value) (qs : List InstQ), e = .returned (.agg #[.int .i64 (niC ds), v']) ∧ qs.map InstQ.e = (niO ds) ∧ instK.Own w' v' qs ∧ (instK.fp v' qs).Nodup ∧ (∀ k ∈ instK.fp v' qs, w.heap.size ≤ k) ∧ Below w.heap.size w w' := by
  subst hx
  exact specNextInstance_any v ps w h hl
theorem implNextInstance_e (v : Value) (ps : List InstQ) (ds : List InstE) (hx : ps.map InstQ.e = ds) (w : World) (hG : RulO w) (h : instK.At w v ps) (hl : (ps.length + nmL InstQ.n ps) ≤ 1048576) :
    Calls Tryz.prog 47 #[v] w fun e w' => ∃ (v' : Value) (qs : List InstQ), e = .returned (.agg #[.int .i64 (niC ds), v']) ∧ qs.map InstQ.e = (niO ds) ∧ instK.Own w' v' qs ∧ (instK.fp v' qs).Nodup ∧ (∀ k ∈ instK.fp v' qs, w.heap.size ≤ k) ∧ Below w.heap.size w w' := by
  subst hx
  exact implNextInstance_any v ps w hG h hl

set_option maxHeartbeats 8000000 in
theorem nextInstanceLaw (v : Value) (ps : List InstQ) (w : World) (hG : RulO w) (h : instK.At w v ps) (hn : ps.length ≤ 9223372036854775807) (hwf : ∀ p ∈ ps, InstQ.wf p) :
    Calls Tryz.prog 8 #[v] w fun e w' => e = .returned (.bool true) ∧ Below w.heap.size w w' := by
  have hsz := fun w h => szInstances_k v ps 1048576 w h hn hwf (by omega) (by omega)
  have hto := fun w h hl => toInstances_k v ps w h hl
  have hsp := fun v qs (hq : qs.map InstQ.e = ps.map InstQ.e) w h hl => specNextInstance_e v qs _ hq w h hl
  have him := fun v qs (hq : qs.map InstQ.e = ps.map InstQ.e) w hG h hl => implNextInstance_e v qs _ hq w hG h hl
  have hqn : ∀ qs : List InstQ, qs.map InstQ.e = ps.map InstQ.e → qs.length + nmL InstQ.n qs = ps.length + nmL InstQ.n ps := fun qs hq => insts_n hq
  have heq := fun v v' (q q' : List InstQ) (hq : q.map InstQ.e = ps.map InstQ.e) (hq' : q'.map InstQ.e = ps.map InstQ.e) w h h' hl => eqInstances_k v v' q q' w h h' (hq.trans hq'.symm) hl
  have hrb := fun (w' : World) hb => Kind.At.below (w' := w') h hb
  have hqs : Hid (∀ qs : List InstQ, qs.map InstQ.e = (niO (ps.map InstQ.e)) → ps.length + nmL InstQ.n ps ≤ 1048576 → qs.length + nmL InstQ.n qs ≤ 1048576) := fun qs hq hp => niO_n hq hp
  generalize (niC (ps.map InstQ.e)) = D at *
  generalize (niO (ps.map InstQ.e)) = E at *
  generalize ps.map InstQ.e = ds at *
  generalize hpn : ps.length + nmL InstQ.n ps = pn at *
  obtain ⟨a, cap, rfl⟩ := h.shape
  have b0 : Below w.heap.size w w := Below.refl _ _
  go_enter Tryz.func8, Tryz.ntmps8
  go_wp2_with fail
  refine (hsz w h).mono ?_
  rintro e w1 ⟨r, rfl, hr, hb⟩
  replace b0 := b0.trans (hb.mono b0.size)
  clear hb
  clear hsz
  by_cases hneg : r < 0
  · go_wp2
    go_ret
    exact ⟨rfl, b0⟩
  have hl : (pn : Int) + r = 1048576 := hr (by omega)
  clear hr
  replace hl : pn ≤ 1048576 := by omega
  go_wp2_with fail
  clear hneg
  refine (hto w1 (hrb w1 b0) hl).mono ?_
  rintro e w2 ⟨v1, q1, rfl, e1, o1, n1, g1, hb⟩
  replace b0 := b0.trans (hb.mono b0.size)
  clear hb
  clear n1 g1
  have hl1 : q1.length + nmL InstQ.n q1 ≤ 1048576 := by rw [hqn q1 e1]; exact hl
  have hs1 := fun w h => hsp v1 q1 e1 w h hl1
  obtain ⟨a1, k1, rfl⟩ := o1.shape
  go_wp2_with fail
  refine (hs1 w2 o1.at).mono ?_
  rintro e w5 ⟨vs, qs, rfl, es, os, ns, gs, hb⟩
  have us : ∀ k ∈ instK.fp vs qs, w.heap.size ≤ k ∧ k < w5.heap.size := fun k hk => ⟨by have := gs k hk; have := b0.size; omega, os.lt k hk⟩
  replace b0 := b0.trans (hb.mono b0.size)
  clear hb
  clear hs1 hsp o1 hl1 e1 ns gs
  have hw5 : w.heap.size ≤ w5.heap.size := b0.size
  have hls : qs.length + nmL InstQ.n qs ≤ 1048576 := hqs.out qs es hl
  obtain ⟨as_, ks_, rfl⟩ := os.shape
  have S0 := Blk.new w5 53 #[.int .i64 D, .slice as_ qs.length ks_]
  have hb : Below w5.heap.size w5 (w5.alloc (.cells #[.int .i64 D, .slice as_ qs.length ks_] 53)) := by go_grown
  replace os := os.below hb
  replace b0 := b0.trans (hb.mono b0.size)
  clear hb
  go_wp2_with fail
  generalize w5.alloc (.cells #[.int .i64 D, .slice as_ qs.length ks_] 53) = W5 at *
  refine (hto W5 (hrb W5 b0) hl).mono ?_
  rintro e w6 ⟨v2, q2, rfl, e2, o2, n2, g2, hb⟩
  have hS5 := S0.lt
  have u2 : ∀ k ∈ instK.fp v2 q2, w5.heap.size < k ∧ k < w6.heap.size := fun k hk => ⟨by have := g2 k hk; omega, o2.lt k hk⟩
  replace S0 := S0.below hb
  replace os := os.below hb
  replace b0 := b0.trans (hb.mono b0.size)
  clear hb
  clear g2
  have hw6 : w5.heap.size < w6.heap.size := S0.lt
  have hl2 : q2.length + nmL InstQ.n q2 ≤ 1048576 := by rw [hqn q2 e2]; exact hl
  have hi2 := fun w hG h => him v2 q2 e2 w hG h hl2
  have he2 := fun v' q' hq' w h h' => heq v2 v' q2 q' e2 hq' w h h' hl2
  obtain ⟨a2, k2, rfl⟩ := o2.shape
  go_wp2_with fail
  refine (hi2 w6 (hG.below b0) o2.at).mono ?_
  rintro e w8 ⟨vi, qi, rfl, ei, oi, ni, gi, hb⟩
  have h78 := hb.size
  have ui : ∀ k ∈ instK.fp vi qi, w6.heap.size ≤ k ∧ k < w8.heap.size := fun k hk => ⟨gi k hk, oi.lt k hk⟩
  replace S0 := S0.below hb
  replace os := os.below hb
  replace o2 := o2.below hb
  replace b0 := b0.trans (hb.mono b0.size)
  clear hb
  clear gi hi2
  have hli : qi.length + nmL InstQ.n qi ≤ 1048576 := hqs.out qi ei hl
  obtain ⟨ai, ki, rfl⟩ := oi.shape
  have Y0 := Blk.new w8 53 #[.int .i64 D, .slice ai qi.length ki]
  have hb : Below w8.heap.size w8 (w8.alloc (.cells #[.int .i64 D, .slice ai qi.length ki] 53)) := by go_grown
  replace S0 := S0.below hb
  replace os := os.below hb
  replace o2 := o2.below hb
  replace oi := oi.below hb
  replace b0 := b0.trans (hb.mono b0.size)
  clear hb
  have r0 := S0.cell 0 _ rfl
  have r1 := S0.cell 1 _ rfl
  go_wp2_with fail
  clear r0 r1
  generalize w8.alloc (.cells #[.int .i64 D, .slice ai qi.length ki] 53) = W8 at *
  refine (eqORR_k D (.slice ai qi.length ki) (.slice as_ qs.length ks_) qi qs _ oi.at os.at (ei.trans es.symm) hli).mono ?_
  rintro e w9 ⟨rfl, hb⟩
  replace S0 := S0.below hb
  replace Y0 := Y0.below hb
  replace os := os.below hb
  replace o2 := o2.below hb
  replace oi := oi.below hb
  replace b0 := b0.trans (hb.mono b0.size)
  clear hb
  go_wp2_with fail
  refine (hto w9 (hrb w9 b0) hl).mono ?_
  rintro e w10 ⟨v3, q3, rfl, e3, o3, n3, g3, hb⟩
  replace S0 := S0.below hb
  replace Y0 := Y0.below hb
  replace os := os.below hb
  replace o2 := o2.below hb
  replace oi := oi.below hb
  replace b0 := b0.trans (hb.mono b0.size)
  clear hb
  clear n3 g3
  have he3 := fun w h h' => he2 v3 q3 e3 w h h'
  obtain ⟨a3, k3, rfl⟩ := o3.shape
  clear he2
  go_wp2_with fail
  refine (he3 w10 o2.at o3.at).mono ?_
  rintro e w11 ⟨rfl, hb⟩
  replace S0 := S0.below hb
  replace Y0 := Y0.below hb
  replace os := os.below hb
  replace o2 := o2.below hb
  replace oi := oi.below hb
  replace b0 := b0.trans (hb.mono b0.size)
  clear hb
  clear he3 o3 e3
  go_wp2_with fail
  have hm2 := nmInsS_le q2
  refine (markInstances_k (.slice a2 q2.length k2) q2 1 _ o2 n2 hl2 (by omega) (by omega)).mono ?_
  rintro e w13 ⟨rfl, _, hU⟩
  have hNU : ∀ k, k ∈ instK.fp (.slice a2 q2.length k2) q2 → w5.heap.size < k ∧ k < w6.heap.size := u2
  replace S0 := S0.outs hU (fun hk => by have := hNU _ hk; omega)
  replace Y0 := Y0.outs hU (fun hk => by have := hNU _ hk; omega)
  replace os := os.out hU (fun k hk hk' => by have := hNU _ hk'; have := us k hk; omega)
  replace oi := oi.out hU (fun k hk hk' => by have := hNU _ hk'; have := ui k hk; omega)
  replace b0 := Out.keep b0 hU b0.size (fun k hk => by have := hNU _ hk; omega)
  clear hNU hU
  clear o2
  generalize hM2 : (nmL nmInsS q2 : Int) = M2 at *
  have hm2' : 0 ≤ M2 ∧ M2 ≤ 3145728 := by omega
  have hpos : ¬ (1 + M2 < 0) := by omega
  clear hm2 hM2
  have p0 := Y0.cell 0 _ rfl
  have p1 := Y0.cell 1 _ rfl
  have r0 := S0.cell 0 _ rfl
  have r1 := S0.cell 1 _ rfl
  go_wp2_with fail
  clear p0 p1
  clear r0 r1
  refine (eqORR_k D (.slice ai qi.length ki) (.slice as_ qs.length ks_) qi qs _ oi.at os.at (ei.trans es.symm) hli).mono ?_
  rintro e w15 ⟨rfl, hb⟩
  replace S0 := S0.below hb
  replace Y0 := Y0.below hb
  replace os := os.below hb
  replace oi := oi.below hb
  replace b0 := b0.trans (hb.mono b0.size)
  clear hb
  have p0 := Y0.cell 0 _ rfl
  have p1 := Y0.cell 1 _ rfl
  go_wp2_with fail
  clear p0 p1
  have hmi := nmInsS_le qi
  refine (markORR_k D (.slice ai qi.length ki) qi 1 w15 oi ni hli (by omega) (by omega)).mono ?_
  rintro e w16 ⟨rfl, om, hU⟩
  have hNU : ∀ k, k ∈ instK.fp (.slice ai qi.length ki) qi → w6.heap.size ≤ k ∧ k < w8.heap.size := ui
  replace S0 := S0.outs hU (fun hk => by have := hNU _ hk; omega)
  replace Y0 := Y0.outs hU (fun hk => by have := hNU _ hk; omega)
  replace os := os.out hU (fun k hk hk' => by have := hNU _ hk'; have := us k hk; omega)
  replace b0 := Out.keep b0 hU b0.size (fun k hk => by have := hNU _ hk; omega)
  clear hNU hU
  clear oi
  have rm := om.at
  clear om
  have hmm : Hid (∀ w', Below w16.heap.size w16 w' → instK.At w' (.slice ai qi.length ki) (mkL mkInsS nmInsS 1 qi)) := fun w' hb => rm.below hb
  have hbq : Below w16.heap.size w16 w16 := Below.refl _ _
  have hhe := fun w h => heldORR_k D (.slice ai qi.length ki) qi 1 w h hli (by omega) (by omega)
  generalize hMi : (nmL nmInsS qi : Int) = Mi at *
  have hmi' : 0 ≤ Mi ∧ Mi ≤ 3145728 := by omega
  have hpi : ¬ (1 + Mi < 0) := by omega
  have hne : ((1 + Mi) != (1 + Mi)) = false := by simp
  clear hmi hMi rm
  have p0 := Y0.cell 0 _ rfl
  have p1 := Y0.cell 1 _ rfl
  go_wp2_with fail
  clear p0 p1
  refine (hhe w16 (hmm.out _ hbq)).mono ?_
  rintro e w17 ⟨rfl, hb⟩
  replace hbq := hbq.trans (hb.mono hbq.size)
  replace S0 := S0.below hb
  replace Y0 := Y0.below hb
  replace os := os.below hb
  replace b0 := b0.trans (hb.mono b0.size)
  clear hb
  go_wp2_with fail
  refine (hto w17 (hrb w17 b0) hl).mono ?_
  rintro e w18 ⟨v5, q5, rfl, e5, o5, n5, g5, hb⟩
  replace hbq := hbq.trans (hb.mono hbq.size)
  replace S0 := S0.below hb
  replace Y0 := Y0.below hb
  replace os := os.below hb
  replace b0 := b0.trans (hb.mono b0.size)
  clear hb
  clear n5 g5
  have hi5 := fun w hG h => him v5 q5 e5 w hG h (by rw [hqn q5 e5]; exact hl)
  obtain ⟨a5, k5, rfl⟩ := o5.shape
  go_wp2_with fail
  refine (hi5 w18 (hG.below b0) o5.at).mono ?_
  rintro e w20 ⟨vh, qh, rfl, eh, oh, nh, gh, hb⟩
  replace hbq := hbq.trans (hb.mono hbq.size)
  replace S0 := S0.below hb
  replace Y0 := Y0.below hb
  replace os := os.below hb
  replace b0 := b0.trans (hb.mono b0.size)
  clear hb
  clear nh gh him hi5 e5 o5 hto
  have hlh : qh.length + nmL InstQ.n qh ≤ 1048576 := hqs.out qh eh hl
  obtain ⟨ah, kh, rfl⟩ := oh.shape
  have H0 := Blk.new w20 53 #[.int .i64 D, .slice ah qh.length kh]
  have hb : Below w20.heap.size w20 (w20.alloc (.cells #[.int .i64 D, .slice ah qh.length kh] 53)) := by go_grown
  replace hbq := hbq.trans (hb.mono hbq.size)
  replace S0 := S0.below hb
  replace Y0 := Y0.below hb
  replace os := os.below hb
  replace oh := oh.below hb
  replace b0 := b0.trans (hb.mono b0.size)
  clear hb
  have r0 := S0.cell 0 _ rfl
  have r1 := S0.cell 1 _ rfl
  go_wp2_with fail
  clear r0 r1
  generalize w20.alloc (.cells #[.int .i64 D, .slice ah qh.length kh] 53) = W20 at *
  refine (eqORR_k D (.slice ah qh.length kh) (.slice as_ qs.length ks_) qh qs _ oh.at os.at (eh.trans es.symm) hlh).mono ?_
  rintro e w21 ⟨rfl, hb⟩
  replace hbq := hbq.trans (hb.mono hbq.size)
  replace S0 := S0.below hb
  replace Y0 := Y0.below hb
  replace H0 := H0.below hb
  replace os := os.below hb
  replace oh := oh.below hb
  replace b0 := b0.trans (hb.mono b0.size)
  clear hb
  have p0 := Y0.cell 0 _ rfl
  have p1 := Y0.cell 1 _ rfl
  go_wp2_with fail
  clear p0 p1
  refine (hhe w21 (hmm.out _ hbq)).mono ?_
  rintro e w22 ⟨rfl, hb⟩
  replace b0 := b0.trans (hb.mono b0.size)
  clear hb hhe hmm hbq S0 Y0 H0 os oh
  go_wp2
  go_ret
  exact ⟨rfl, b0⟩

end Go.Proofs.YtmgkjcobdmdjmaaGreatDoor

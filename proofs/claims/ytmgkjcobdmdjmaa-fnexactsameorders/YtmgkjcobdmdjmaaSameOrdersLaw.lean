/- The law FnExactSameOrders, walked: at every two lists that can be read it answers true, and it writes into nothing that was there. -/
import Derived.Test.YtmgkjcobdmdjmaaSo7
namespace Go.Proofs.Ytmgkjcobdmdjmaa
open Go.RowKit
open Go.BigFrame
set_option linter.unusedVariables false
set_option linter.unusedSimpArgs false

theorem inst_n {q p : InstQ} (h : q.e = p.e) : q.n = p.n := by
  simp only [InstQ.e, InstE.mk.injEq] at h
  obtain ⟨_, h1, h2, h3⟩ := h
  have t1 : q.batch.length = p.batch.length := by simpa using congrArg List.length h1
  have t2 : nmL TxnQ.n q.batch = nmL TxnQ.n p.batch := by
    have := congrArg (fun l => nmL (fun d : TxnD => d.acts.length) l) h1
    simp only [nmL, List.map_map] at this
    exact this
  have t3 : q.rounds.length = p.rounds.length := by simpa using congrArg List.length h2
  have t4 : nmL RoundQ.n q.rounds = nmL RoundQ.n p.rounds := by
    have := congrArg (fun l => nmL (fun d : RoundE => d.rep.length + d.pro.length) l) h2
    simp only [nmL, List.map_map] at this
    exact this
  unfold InstQ.n
  rw [t1, t2, t3, t4, h3]
theorem insts_n' {qs ps : List InstQ} (h : qs.map InstQ.e = ps.map InstQ.e) : qs.length + nmL InstQ.n qs = ps.length + nmL InstQ.n ps := by
  induction qs generalizing ps with
  | nil =>
    cases ps with
    | nil => rfl
    | cons p r => simp at h
  | cons q s ih =>
    cases ps with
    | nil => simp at h
    | cons p r =>
      simp only [List.map_cons, List.cons.injEq] at h
      have h1 := inst_n h.1
      have h2 := ih h.2
      simp only [nmL, List.map_cons, List.sum_cons, List.length_cons] at h2 ⊢
      omega
theorem specSameOrders_e (v v' : Value) (xs ys : List InstQ) (ds ds' : List InstE) (hx : xs.map InstQ.e = ds) (hy : ys.map InstQ.e = ds') (w : World) (h : instK.At w v xs) (h' : instK.At w v' ys) (hl : xs.length + nmL InstQ.n xs ≤ 1048576) (hl' : ys.length + nmL InstQ.n ys ≤ 1048576) :
    Calls Try.prog 6 #[v, v'] w fun e w' => e = .returned (.bool (sameIs ds ds')) ∧ Below w.heap.size w w' := by
  subst hx hy
  exact specSameOrders_any v v' xs ys w h h' hl hl'
theorem implSameOrders_e (v v' : Value) (xs ys : List InstQ) (ds ds' : List InstE) (hx : xs.map InstQ.e = ds) (hy : ys.map InstQ.e = ds') (w : World) (h : instK.At w v xs) (h' : instK.At w v' ys) (hl : xs.length + nmL InstQ.n xs ≤ 1048576) (hl' : ys.length + nmL InstQ.n ys ≤ 1048576) :
    Calls Try.prog 8 #[v, v'] w fun e w' => e = .returned (.bool (sameIs ds ds')) ∧ Below w.heap.size w w' := by
  subst hx hy
  exact implSameOrders_any v v' xs ys w h h' hl hl'

set_option maxHeartbeats 8000000 in
theorem sameOrdersLaw (v : Value) (ps : List InstQ) (v' : Value) (ps' : List InstQ) (w : World) (h : instK.At w v ps) (hn : ps.length ≤ 9223372036854775807) (hwf : ∀ p ∈ ps, InstQ.wf p) (h' : instK.At w v' ps') (hn' : ps'.length ≤ 9223372036854775807) (hwf' : ∀ p ∈ ps', InstQ.wf p) :
    Calls Try.prog 3 #[v, v'] w fun e w' => e = .returned (.bool true) ∧ Below w.heap.size w w' := by
  have hsz := fun w h => szInstances_k v ps 1048576 w h hn hwf (by omega) (by omega)
  have hsz' := fun c w h h0 h1 => szInstances_k v' ps' c w h hn' hwf' h0 h1
  have hto := fun w h hl => toInstances_k v ps w h hl
  have hto' := fun w h hl => toInstances_k v' ps' w h hl
  have hsp := fun v v' q q' (hq : q.map InstQ.e = ps.map InstQ.e) (hq' : q'.map InstQ.e = ps'.map InstQ.e) w h h' hl hl' => specSameOrders_e v v' q q' _ _ hq hq' w h h' hl hl'
  have him := fun v v' q q' (hq : q.map InstQ.e = ps.map InstQ.e) (hq' : q'.map InstQ.e = ps'.map InstQ.e) w h h' hl hl' => implSameOrders_e v v' q q' _ _ hq hq' w h h' hl hl'
  have hqn : ∀ q : List InstQ, q.map InstQ.e = ps.map InstQ.e → q.length + nmL InstQ.n q = ps.length + nmL InstQ.n ps := fun q hq => insts_n' hq
  have hqn' : ∀ q : List InstQ, q.map InstQ.e = ps'.map InstQ.e → q.length + nmL InstQ.n q = ps'.length + nmL InstQ.n ps' := fun q hq => insts_n' hq
  have heq := fun v v' (q q' : List InstQ) (hq : q.map InstQ.e = ps.map InstQ.e) (hq' : q'.map InstQ.e = ps.map InstQ.e) w h h' hl => eqInstances_k v v' q q' w h h' (hq.trans hq'.symm) hl
  have heq' := fun v v' (q q' : List InstQ) (hq : q.map InstQ.e = ps'.map InstQ.e) (hq' : q'.map InstQ.e = ps'.map InstQ.e) w h h' hl => eqInstances_k v v' q q' w h h' (hq.trans hq'.symm) hl
  have hrb := fun (w' : World) hb => Kind.At.below (w' := w') h hb
  have hrb' := fun (w' : World) hb => Kind.At.below (w' := w') h' hb
  generalize sameIs (ps.map InstQ.e) (ps'.map InstQ.e) = E at *
  generalize ps.map InstQ.e = ds at *
  generalize ps'.map InstQ.e = ds' at *
  generalize hpn : ps.length + nmL InstQ.n ps = pn at *
  generalize hpn' : ps'.length + nmL InstQ.n ps' = pn' at *
  obtain ⟨a, cap, rfl⟩ := h.shape
  obtain ⟨a', cap', rfl⟩ := h'.shape
  have b0 : Below w.heap.size w w := Below.refl _ _
  go_enter Try.func3, Try.ntmps3
  go_wp2_with fail
  refine (hsz w h).mono ?_
  rintro e w1 ⟨r, rfl, hr, hb⟩
  replace b0 := b0.trans (hb.mono b0.size)
  clear hb
  clear hsz
  by_cases hneg : r < 0
  · go_wp2
    go_ret
    exact ⟨rfl, b0⟩
  have hl : (pn : Int) + r = 1048576 := hr (by omega)
  clear hr
  go_wp2_with fail
  refine (hsz' r w1 (hrb' w1 b0) (by omega) (by omega)).mono ?_
  rintro e w2 ⟨r', rfl, hr, hb⟩
  replace b0 := b0.trans (hb.mono b0.size)
  clear hb
  clear hsz'
  by_cases hneg' : r' < 0
  · go_wp2
    go_ret
    exact ⟨rfl, b0⟩
  have hl' : (pn' : Int) + r' = r := hr (by omega)
  clear hr
  replace hl' : pn' ≤ 1048576 := by omega
  replace hl : pn ≤ 1048576 := by omega
  go_wp2_with fail
  clear hneg hneg'
  refine (hto w2 (hrb w2 b0) hl).mono ?_
  rintro e w3 ⟨v1, q1, rfl, e1, o1, n1, g1, hb⟩
  replace b0 := b0.trans (hb.mono b0.size)
  clear hb
  clear n1 g1
  obtain ⟨a1, k1, rfl⟩ := o1.shape
  go_wp2_with fail
  refine (hto' w3 (hrb' w3 b0) hl').mono ?_
  rintro e w4 ⟨v2, q2, rfl, e2, o2, n2, g2, hb⟩
  replace o1 := o1.below hb
  replace b0 := b0.trans (hb.mono b0.size)
  clear hb
  clear n2 g2
  obtain ⟨a2, k2, rfl⟩ := o2.shape
  go_wp2_with fail
  refine (hsp _ _ q1 q2 e1 e2 w4 o1.at o2.at (by rw [hqn q1 e1]; exact hl) (by rw [hqn' q2 e2]; exact hl')).mono ?_
  rintro e w5 ⟨rfl, hb⟩
  replace b0 := b0.trans (hb.mono b0.size)
  clear hb
  clear o1 o2 e1 e2 hsp
  go_wp2_with fail
  refine (hto w5 (hrb w5 b0) hl).mono ?_
  rintro e w6 ⟨v3, q3, rfl, e3, o3, n3, g3, hb⟩
  replace b0 := b0.trans (hb.mono b0.size)
  clear hb
  clear n3 g3
  obtain ⟨a3, k3, rfl⟩ := o3.shape
  have hl3 : q3.length + nmL InstQ.n q3 ≤ 1048576 := by rw [hqn q3 e3]; exact hl
  go_wp2_with fail
  refine (hto' w6 (hrb' w6 b0) hl').mono ?_
  rintro e w7 ⟨v4, q4, rfl, e4, o4, n4, g4, hb⟩
  replace o3 := o3.below hb
  replace b0 := b0.trans (hb.mono b0.size)
  clear hb
  clear n4 g4
  obtain ⟨a4, k4, rfl⟩ := o4.shape
  have hl4 : q4.length + nmL InstQ.n q4 ≤ 1048576 := by rw [hqn' q4 e4]; exact hl'
  go_wp2_with fail
  refine (him _ _ q3 q4 e3 e4 w7 o3.at o4.at hl3 hl4).mono ?_
  rintro e w8 ⟨rfl, hb⟩
  replace o3 := o3.below hb
  replace o4 := o4.below hb
  replace b0 := b0.trans (hb.mono b0.size)
  clear hb
  clear him
  have hne : (E != E) = false := by simp
  go_wp2_with fail
  refine (hto w8 (hrb w8 b0) hl).mono ?_
  rintro e w9 ⟨v5, q5, rfl, e5, o5, n5, g5, hb⟩
  replace o3 := o3.below hb
  replace o4 := o4.below hb
  replace b0 := b0.trans (hb.mono b0.size)
  clear hb
  clear n5 g5
  obtain ⟨a5, k5, rfl⟩ := o5.shape
  go_wp2_with fail
  refine (heq _ _ q3 q5 e3 e5 w9 o3.at o5.at hl3).mono ?_
  rintro e w10 ⟨rfl, hb⟩
  replace o3 := o3.below hb
  replace o4 := o4.below hb
  replace b0 := b0.trans (hb.mono b0.size)
  clear hb
  clear o5 e5 heq
  go_wp2_with fail
  refine (hto' w10 (hrb' w10 b0) hl').mono ?_
  rintro e w11 ⟨v6, q6, rfl, e6, o6, n6, g6, hb⟩
  replace o3 := o3.below hb
  replace o4 := o4.below hb
  replace b0 := b0.trans (hb.mono b0.size)
  clear hb
  clear n6 g6
  obtain ⟨a6, k6, rfl⟩ := o6.shape
  go_wp2_with fail
  refine (heq' _ _ q4 q6 e4 e6 w11 o4.at o6.at hl4).mono ?_
  rintro e w12 ⟨rfl, hb⟩
  replace b0 := b0.trans (hb.mono b0.size)
  clear hb heq' hto hto'
  go_wp2
  go_ret
  exact ⟨rfl, b0⟩

end Go.Proofs.Ytmgkjcobdmdjmaa

/- The law FnExactIsPrefix, walked: at every two lists that can be read it answers true, and it writes into nothing that was there. -/
import Derived.Test.YticfbapipdhhmaaPr7
namespace Go.Proofs.Yticfbapipdhhmaa
open Go.RowKit
open Go.BigFrame
set_option linter.unusedVariables false
set_option linter.unusedSimpArgs false

theorem txns_n' {qs ps : List TxnQ} (h : qs.map TxnQ.e = ps.map TxnQ.e) : qs.length + nmL TxnQ.n qs = ps.length + nmL TxnQ.n ps := by
  have t1 : qs.length = ps.length := by simpa using congrArg List.length h
  have t2 : nmL TxnQ.n qs = nmL TxnQ.n ps := by
    have := congrArg (fun l => nmL (fun d : TxnD => d.acts.length) l) h
    simp only [nmL, List.map_map] at this
    exact this
  omega
theorem specIsPrefix_e (v v' : Value) (xs ys : List TxnQ) (ds ds' : List TxnD) (hx : xs.map TxnQ.e = ds) (hy : ys.map TxnQ.e = ds') (w : World) (h : txnK.At w v xs) (h' : txnK.Own w v' ys) (hl : xs.length + nmL TxnQ.n xs ≤ 1048576) (hl' : ys.length + nmL TxnQ.n ys ≤ 1048576) :
    Calls Try.prog 5 #[v, v'] w fun e w' => e = .returned (.bool (preT ds ds')) ∧ Below w.heap.size w w' := by
  subst hx hy
  exact specIsPrefix_any v v' xs ys w h h' hl hl'
theorem implIsPrefix_e (v v' : Value) (xs ys : List TxnQ) (ds ds' : List TxnD) (hx : xs.map TxnQ.e = ds) (hy : ys.map TxnQ.e = ds') (w : World) (h : txnK.At w v xs) (h' : txnK.Own w v' ys) (hl : xs.length + nmL TxnQ.n xs ≤ 1048576) (hl' : ys.length + nmL TxnQ.n ys ≤ 1048576) :
    Calls Try.prog 7 #[v, v'] w fun e w' => e = .returned (.bool (preT ds ds')) ∧ Below w.heap.size w w' := by
  subst hx hy
  exact implIsPrefix_any v v' xs ys w h h' hl hl'

set_option maxHeartbeats 8000000 in
theorem isPrefixLaw (v : Value) (ps : List TxnQ) (v' : Value) (ps' : List TxnQ) (w : World) (h : txnK.At w v ps) (hn : ps.length ≤ 9223372036854775807) (hwf : ∀ p ∈ ps, TxnQ.wf p) (h' : txnK.At w v' ps') (hn' : ps'.length ≤ 9223372036854775807) (hwf' : ∀ p ∈ ps', TxnQ.wf p) :
    Calls Try.prog 3 #[v, v'] w fun e w' => e = .returned (.bool true) ∧ Below w.heap.size w w' := by
  have hsz := fun w h => szTxns_k v ps 1048576 w h hn hwf (by omega) (by omega)
  have hsz' := fun c w h h0 h1 => szTxns_k v' ps' c w h hn' hwf' h0 h1
  have hto := fun w h hl => toTxns_k v ps w h hl
  have hto' := fun w h hl => toTxns_k v' ps' w h hl
  have hsp := fun v v' q q' (hq : q.map TxnQ.e = ps.map TxnQ.e) (hq' : q'.map TxnQ.e = ps'.map TxnQ.e) w h h' hl hl' => specIsPrefix_e v v' q q' _ _ hq hq' w h h' hl hl'
  have him := fun v v' q q' (hq : q.map TxnQ.e = ps.map TxnQ.e) (hq' : q'.map TxnQ.e = ps'.map TxnQ.e) w h h' hl hl' => implIsPrefix_e v v' q q' _ _ hq hq' w h h' hl hl'
  have hqn : ∀ q : List TxnQ, q.map TxnQ.e = ps.map TxnQ.e → q.length + nmL TxnQ.n q = ps.length + nmL TxnQ.n ps := fun q hq => txns_n' hq
  have hqn' : ∀ q : List TxnQ, q.map TxnQ.e = ps'.map TxnQ.e → q.length + nmL TxnQ.n q = ps'.length + nmL TxnQ.n ps' := fun q hq => txns_n' hq
  have heq := fun v v' (q q' : List TxnQ) (hq : q.map TxnQ.e = ps.map TxnQ.e) (hq' : q'.map TxnQ.e = ps.map TxnQ.e) w h h' hl => eqTxns_k v v' q q' w h h' (hq.trans hq'.symm) hl
  have heq' := fun v v' (q q' : List TxnQ) (hq : q.map TxnQ.e = ps'.map TxnQ.e) (hq' : q'.map TxnQ.e = ps'.map TxnQ.e) w h h' hl => eqTxns_k v v' q q' w h h' (hq.trans hq'.symm) hl
  have hrb := fun (w' : World) hb => Kind.At.below (w' := w') h hb
  have hrb' := fun (w' : World) hb => Kind.At.below (w' := w') h' hb
  generalize preT (ps.map TxnQ.e) (ps'.map TxnQ.e) = E at *
  generalize ps.map TxnQ.e = ds at *
  generalize ps'.map TxnQ.e = ds' at *
  generalize hpn : ps.length + nmL TxnQ.n ps = pn at *
  generalize hpn' : ps'.length + nmL TxnQ.n ps' = pn' at *
  obtain ⟨a, cap, rfl⟩ := h.shape
  obtain ⟨a', cap', rfl⟩ := h'.shape
  have b0 : Below w.heap.size w w := Below.refl _ _
  go_enter Try.func3, Try.ntmps3
  go_wp2_with fail
  refine (hsz w h).mono ?_
  rintro e w1 ⟨r, rfl, hr, hb⟩
  replace b0 := b0.trans (hb.mono b0.size)
  clear hb
  clear hsz
  by_cases hneg : r < 0
  · go_wp2
    go_ret
    exact ⟨rfl, b0⟩
  have hl : (pn : Int) + r = 1048576 := hr (by omega)
  clear hr
  go_wp2_with fail
  refine (hsz' r w1 (hrb' w1 b0) (by omega) (by omega)).mono ?_
  rintro e w2 ⟨r', rfl, hr, hb⟩
  replace b0 := b0.trans (hb.mono b0.size)
  clear hb
  clear hsz'
  by_cases hneg' : r' < 0
  · go_wp2
    go_ret
    exact ⟨rfl, b0⟩
  have hl' : (pn' : Int) + r' = r := hr (by omega)
  clear hr
  replace hl' : pn' ≤ 1048576 := by omega
  replace hl : pn ≤ 1048576 := by omega
  go_wp2_with fail
  clear hneg hneg'
  refine (hto w2 (hrb w2 b0) hl).mono ?_
  rintro e w3 ⟨v1, q1, rfl, e1, o1, n1, g1, hb⟩
  replace b0 := b0.trans (hb.mono b0.size)
  clear hb
  clear n1 g1
  obtain ⟨a1, k1, rfl⟩ := o1.shape
  go_wp2_with fail
  refine (hto' w3 (hrb' w3 b0) hl').mono ?_
  rintro e w4 ⟨v2, q2, rfl, e2, o2, n2, g2, hb⟩
  replace o1 := o1.below hb
  replace b0 := b0.trans (hb.mono b0.size)
  clear hb
  clear n2 g2
  obtain ⟨a2, k2, rfl⟩ := o2.shape
  go_wp2_with fail
  refine (hsp _ _ q1 q2 e1 e2 w4 o1.at o2 (by rw [hqn q1 e1]; exact hl) (by rw [hqn' q2 e2]; exact hl')).mono ?_
  rintro e w5 ⟨rfl, hb⟩
  replace b0 := b0.trans (hb.mono b0.size)
  clear hb
  clear o1 o2 e1 e2 hsp
  go_wp2_with fail
  refine (hto w5 (hrb w5 b0) hl).mono ?_
  rintro e w6 ⟨v3, q3, rfl, e3, o3, n3, g3, hb⟩
  replace b0 := b0.trans (hb.mono b0.size)
  clear hb
  clear n3 g3
  obtain ⟨a3, k3, rfl⟩ := o3.shape
  have hl3 : q3.length + nmL TxnQ.n q3 ≤ 1048576 := by rw [hqn q3 e3]; exact hl
  go_wp2_with fail
  refine (hto' w6 (hrb' w6 b0) hl').mono ?_
  rintro e w7 ⟨v4, q4, rfl, e4, o4, n4, g4, hb⟩
  replace o3 := o3.below hb
  replace b0 := b0.trans (hb.mono b0.size)
  clear hb
  clear n4 g4
  obtain ⟨a4, k4, rfl⟩ := o4.shape
  have hl4 : q4.length + nmL TxnQ.n q4 ≤ 1048576 := by rw [hqn' q4 e4]; exact hl'
  go_wp2_with fail
  refine (him _ _ q3 q4 e3 e4 w7 o3.at o4 hl3 hl4).mono ?_
  rintro e w8 ⟨rfl, hb⟩
  replace o3 := o3.below hb
  replace o4 := o4.below hb
  replace b0 := b0.trans (hb.mono b0.size)
  clear hb
  clear him
  have hne : (E != E) = false := by simp
  go_wp2_with fail
  refine (hto w8 (hrb w8 b0) hl).mono ?_
  rintro e w9 ⟨v5, q5, rfl, e5, o5, n5, g5, hb⟩
  replace o3 := o3.below hb
  replace o4 := o4.below hb
  replace b0 := b0.trans (hb.mono b0.size)
  clear hb
  clear n5 g5
  obtain ⟨a5, k5, rfl⟩ := o5.shape
  go_wp2_with fail
  refine (heq _ _ q3 q5 e3 e5 w9 o3.at o5.at hl3).mono ?_
  rintro e w10 ⟨rfl, hb⟩
  replace o3 := o3.below hb
  replace o4 := o4.below hb
  replace b0 := b0.trans (hb.mono b0.size)
  clear hb
  clear o5 e5 heq
  go_wp2_with fail
  refine (hto' w10 (hrb' w10 b0) hl').mono ?_
  rintro e w11 ⟨v6, q6, rfl, e6, o6, n6, g6, hb⟩
  replace o3 := o3.below hb
  replace o4 := o4.below hb
  replace b0 := b0.trans (hb.mono b0.size)
  clear hb
  clear n6 g6
  obtain ⟨a6, k6, rfl⟩ := o6.shape
  go_wp2_with fail
  refine (heq' _ _ q4 q6 e4 e6 w11 o4.at o6.at hl4).mono ?_
  rintro e w12 ⟨rfl, hb⟩
  replace b0 := b0.trans (hb.mono b0.size)
  clear hb heq' hto hto'
  go_wp2
  go_ret
  exact ⟨rfl, b0⟩

end Go.Proofs.Yticfbapipdhhmaa

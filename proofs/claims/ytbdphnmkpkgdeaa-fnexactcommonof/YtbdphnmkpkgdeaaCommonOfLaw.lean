/- The law FnExactCommonOf, walked: at every two lists of transactions that can be read it answers true, and it writes into nothing that was there. -/
import Derived.Test.YtbdphnmkpkgdeaaC8
import Derived.Test.YtbdphnmkpkgdeaaR8
namespace Go.Proofs.Ytbdphnmkpkgdeaa
open Go.RowKit
open Go.BigFrame
set_option linter.unusedVariables false
set_option linter.unusedSimpArgs false

theorem specCommonOf_e (v v' : Value) (ps ps' : List TxnQ) (ds ds' : List TxnD) (hx : ps.map TxnQ.e = ds) (hx' : ps'.map TxnQ.e = ds') (w : World) (h : txnK.Own w v ps) (h' : txnK.Own w v' ps') (hl : ps.length + nmL TxnQ.n ps ≤ 1048576) (hl' : ps'.length + nmL TxnQ.n ps' ≤ 1048576) :
    Calls Try.prog 19 #[v, v'] w fun e w' => e = .returned (.agg #[.int .i64 (bthF ds ds'), .int .i64 (cmV ds ds')]) ∧ Below w.heap.size w w' := by
  subst hx hx'
  exact specCommonOf_any v v' ps ps' w h.at h'.at h.capOk h'.capOk hl hl'
theorem implCommonOf_e (v v' : Value) (ps ps' : List TxnQ) (ds ds' : List TxnD) (hx : ps.map TxnQ.e = ds) (hx' : ps'.map TxnQ.e = ds') (w : World) (h : txnK.Own w v ps) (h' : txnK.Own w v' ps') (hl : ps.length + nmL TxnQ.n ps ≤ 1048576) (hl' : ps'.length + nmL TxnQ.n ps' ≤ 1048576) :
    Calls Try.prog 18 #[v, v'] w fun e w' => e = .returned (.agg #[.int .i64 (bthF ds ds'), .int .i64 (cmV ds ds')]) ∧ Below w.heap.size w w' := by
  subst hx hx'
  exact implCommonOf_any v v' ps ps' w h.at h'.at hl hl'

set_option maxRecDepth 100000 in
set_option maxHeartbeats 16000000 in
theorem commonOfLaw (v : Value) (ps : List TxnQ) (v' : Value) (ps' : List TxnQ) (w : World) (h : txnK.At w v ps) (hn : ps.length ≤ 9223372036854775807) (hwf : ∀ p ∈ ps, TxnQ.wf p) (h' : txnK.At w v' ps') (hn' : ps'.length ≤ 9223372036854775807) (hwf' : ∀ p ∈ ps', TxnQ.wf p) :
    Calls Try.prog 7 #[v, v'] w fun e w' => e = .returned (.bool true) ∧ Below w.heap.size w w' := by
  have hsz := fun w h => szTxns_k v ps 1048576 w h hn hwf (by omega) (by omega)
  have hto := fun w h hl => toTxns_k v ps w h hl
  have hqn : ∀ qs : List TxnQ, qs.map TxnQ.e = ps.map TxnQ.e → qs.length + nmL TxnQ.n qs = ps.length + nmL TxnQ.n ps := fun qs hq => txns_n hq
  have heq := fun v v' (q q' : List TxnQ) (hq : q.map TxnQ.e = ps.map TxnQ.e) (hq' : q'.map TxnQ.e = ps.map TxnQ.e) w h h' hl => eqTxns_k v v' q q' w h h' (hq.trans hq'.symm) hl
  have hrb := fun (w' : World) hb => Kind.At.below (w' := w') h hb
  have hsz' := fun c w h h0 h1 => szTxns_k v' ps' c w h hn' hwf' h0 h1
  have hto' := fun w h hl => toTxns_k v' ps' w h hl
  have hqn' : ∀ qs : List TxnQ, qs.map TxnQ.e = ps'.map TxnQ.e → qs.length + nmL TxnQ.n qs = ps'.length + nmL TxnQ.n ps' := fun qs hq => txns_n hq
  have heq' := fun v v' (q q' : List TxnQ) (hq : q.map TxnQ.e = ps'.map TxnQ.e) (hq' : q'.map TxnQ.e = ps'.map TxnQ.e) w h h' hl => eqTxns_k v v' q q' w h h' (hq.trans hq'.symm) hl
  have hrb' := fun (w' : World) hb => Kind.At.below (w' := w') h' hb
  have hsp := fun v v' qs qs' (hq : qs.map TxnQ.e = ps.map TxnQ.e) (hq' : qs'.map TxnQ.e = ps'.map TxnQ.e) w h h' hl hl' => specCommonOf_e v v' qs qs' _ _ hq hq' w h h' hl hl'
  have him := fun v v' qs qs' (hq : qs.map TxnQ.e = ps.map TxnQ.e) (hq' : qs'.map TxnQ.e = ps'.map TxnQ.e) w h h' hl hl' => implCommonOf_e v v' qs qs' _ _ hq hq' w h h' hl hl'
  generalize bthF (ps.map TxnQ.e) (ps'.map TxnQ.e) = D at *
  generalize cmV (ps.map TxnQ.e) (ps'.map TxnQ.e) = V at *
  generalize ps.map TxnQ.e = ds at *
  generalize ps'.map TxnQ.e = ds' at *
  generalize hpn : ps.length + nmL TxnQ.n ps = pn at *
  generalize hpn' : ps'.length + nmL TxnQ.n ps' = pn' at *
  obtain ⟨a, cap, rfl⟩ := h.shape
  obtain ⟨a', cap', rfl⟩ := h'.shape
  have b0 : Below w.heap.size w w := Below.refl _ _
  go_enter Try.func7, Try.ntmps7
  go_wp2_with fail
  refine (hsz w h).mono ?_
  rintro e w1 ⟨r, rfl, hr, hb⟩
  replace b0 := b0.trans (hb.mono b0.size)
  clear hb
  clear hsz
  by_cases hneg : r < 0
  · go_wp2
    go_ret
    exact ⟨rfl, b0⟩
  have hl : (pn : Int) + r = 1048576 := hr (by omega)
  clear hr
  go_wp2_with fail
  refine (hsz' r w1 (hrb' w1 b0) (by omega) (by omega)).mono ?_
  rintro e w2 ⟨r', rfl, hr, hb⟩
  replace b0 := b0.trans (hb.mono b0.size)
  clear hb
  clear hsz'
  by_cases hneg' : r' < 0
  · go_wp2
    go_ret
    exact ⟨rfl, b0⟩
  have hl' : (pn' : Int) + r' = r := hr (by omega)
  clear hr
  replace hl' : pn' ≤ 1048576 := by omega
  replace hl : pn ≤ 1048576 := by omega
  go_wp2_with fail
  clear hneg hneg'
  refine (hto w2 (hrb w2 b0) hl).mono ?_
  rintro e w11 ⟨v1, q1, rfl, e1, o1, n1, g1, hb⟩
  have u1 : ∀ k ∈ txnK.fp v1 q1, w2.heap.size ≤ k ∧ k < w11.heap.size := fun k hk => ⟨g1 k hk, o1.lt k hk⟩
  have hs1 := hb.size
  have hl1 : q1.length + nmL TxnQ.n q1 ≤ 1048576 := by rw [hqn q1 e1]; exact hl
  replace b0 := b0.trans (hb.mono b0.size)
  clear hb
  clear g1
  obtain ⟨a1, k1, rfl⟩ := o1.shape
  go_wp2_with fail
  refine (hto' w11 (hrb' w11 b0) hl').mono ?_
  rintro e w12 ⟨v2, q2, rfl, e2, o2, n2, g2, hb⟩
  have u2 : ∀ k ∈ txnK.fp v2 q2, w11.heap.size ≤ k ∧ k < w12.heap.size := fun k hk => ⟨g2 k hk, o2.lt k hk⟩
  have hs2 := hb.size
  have hl2 : q2.length + nmL TxnQ.n q2 ≤ 1048576 := by rw [hqn' q2 e2]; exact hl'
  replace o1 := o1.below hb
  replace b0 := b0.trans (hb.mono b0.size)
  clear hb
  clear g2
  obtain ⟨a2, k2, rfl⟩ := o2.shape
  go_wp2_with fail
  refine (hsp (.slice a1 q1.length k1) (.slice a2 q2.length k2) q1 q2 e1 e2 w12 o1 o2 hl1 hl2).mono ?_
  rintro e w13 ⟨rfl, hb⟩
  replace b0 := b0.trans (hb.mono b0.size)
  clear hb
  have Bs := Blk.new w13 40 #[.int .i64 D, .int .i64 V]
  have hb : Below w13.heap.size w13 (w13.alloc (.cells #[.int .i64 D, .int .i64 V] 40)) := by go_grown
  have hBs : w13.heap.size < (w13.alloc (.cells #[.int .i64 D, .int .i64 V] 40)).heap.size := by simp
  replace b0 := b0.trans (hb.mono b0.size)
  clear hb
  clear o1 e1 n1 u1 hl1 o2 e2 n2 u2 hl2 hsp
  go_wp2_with fail
  generalize w13.alloc (.cells #[.int .i64 D, .int .i64 V] 40) = w14 at *
  refine (hto w14 (hrb w14 b0) hl).mono ?_
  rintro e w15 ⟨v3, q3, rfl, e3, o3, n3, g3, hb⟩
  have u3 : ∀ k ∈ txnK.fp v3 q3, w14.heap.size ≤ k ∧ k < w15.heap.size := fun k hk => ⟨g3 k hk, o3.lt k hk⟩
  have hs3 := hb.size
  have hl3 : q3.length + nmL TxnQ.n q3 ≤ 1048576 := by rw [hqn q3 e3]; exact hl
  replace Bs := Bs.below hb
  replace b0 := b0.trans (hb.mono b0.size)
  clear hb
  clear g3
  obtain ⟨a3, k3, rfl⟩ := o3.shape
  go_wp2_with fail
  refine (hto' w15 (hrb' w15 b0) hl').mono ?_
  rintro e w16 ⟨v4, q4, rfl, e4, o4, n4, g4, hb⟩
  have u4 : ∀ k ∈ txnK.fp v4 q4, w15.heap.size ≤ k ∧ k < w16.heap.size := fun k hk => ⟨g4 k hk, o4.lt k hk⟩
  have hs4 := hb.size
  have hl4 : q4.length + nmL TxnQ.n q4 ≤ 1048576 := by rw [hqn' q4 e4]; exact hl'
  replace Bs := Bs.below hb
  replace o3 := o3.below hb
  replace b0 := b0.trans (hb.mono b0.size)
  clear hb
  clear g4
  obtain ⟨a4, k4, rfl⟩ := o4.shape
  go_wp2_with fail
  refine (him (.slice a3 q3.length k3) (.slice a4 q4.length k4) q3 q4 e3 e4 w16 o3 o4 hl3 hl4).mono ?_
  rintro e w17 ⟨rfl, hb⟩
  replace Bs := Bs.below hb
  replace o3 := o3.below hb
  replace o4 := o4.below hb
  replace b0 := b0.trans (hb.mono b0.size)
  clear hb
  have Bi := Blk.new w17 40 #[.int .i64 D, .int .i64 V]
  have hb : Below w17.heap.size w17 (w17.alloc (.cells #[.int .i64 D, .int .i64 V] 40)) := by go_grown
  have hBi : w17.heap.size < (w17.alloc (.cells #[.int .i64 D, .int .i64 V] 40)).heap.size := by simp
  replace Bs := Bs.below hb
  replace o3 := o3.below hb
  replace o4 := o4.below hb
  replace b0 := b0.trans (hb.mono b0.size)
  clear hb
  have r0 := Bs.cell 0 _ rfl
  have r1 := Bs.cell 1 _ rfl
  go_wp2_with fail
  clear r0 r1
  generalize w17.alloc (.cells #[.int .i64 D, .int .i64 V] 40) = w18 at *
  refine (eqIR_true D V w18).mono ?_
  rintro e w19 ⟨rfl, hb⟩
  replace Bs := Bs.below hb
  replace Bi := Bi.below hb
  replace o3 := o3.below hb
  replace o4 := o4.below hb
  replace b0 := b0.trans (hb.mono b0.size)
  clear hb
  go_wp2_with fail
  refine (hto w19 (hrb w19 b0) hl).mono ?_
  rintro e w20 ⟨v9, q9, rfl, e9, o9, n9, g9, hb⟩
  have u9 : ∀ k ∈ txnK.fp v9 q9, w19.heap.size ≤ k ∧ k < w20.heap.size := fun k hk => ⟨g9 k hk, o9.lt k hk⟩
  have hs9 := hb.size
  have hl9 : q9.length + nmL TxnQ.n q9 ≤ 1048576 := by rw [hqn q9 e9]; exact hl
  replace Bs := Bs.below hb
  replace Bi := Bi.below hb
  replace o3 := o3.below hb
  replace o4 := o4.below hb
  replace b0 := b0.trans (hb.mono b0.size)
  clear hb
  clear g9
  obtain ⟨a9, k9, rfl⟩ := o9.shape
  go_wp2_with fail
  refine (heq (.slice a3 q3.length k3) (.slice a9 q9.length k9) q3 q9 e3 e9 w20 o3.at o9.at hl3).mono ?_
  rintro e w21 ⟨rfl, hb⟩
  replace Bs := Bs.below hb
  replace Bi := Bi.below hb
  replace o3 := o3.below hb
  replace o4 := o4.below hb
  replace b0 := b0.trans (hb.mono b0.size)
  clear hb
  clear o9 e9 n9 u9 hs9 hl9
  go_wp2_with fail
  refine (hto' w21 (hrb' w21 b0) hl').mono ?_
  rintro e w22 ⟨v9, q9, rfl, e9, o9, n9, g9, hb⟩
  have u9 : ∀ k ∈ txnK.fp v9 q9, w21.heap.size ≤ k ∧ k < w22.heap.size := fun k hk => ⟨g9 k hk, o9.lt k hk⟩
  have hs9 := hb.size
  have hl9 : q9.length + nmL TxnQ.n q9 ≤ 1048576 := by rw [hqn' q9 e9]; exact hl'
  replace Bs := Bs.below hb
  replace Bi := Bi.below hb
  replace o3 := o3.below hb
  replace o4 := o4.below hb
  replace b0 := b0.trans (hb.mono b0.size)
  clear hb
  clear g9
  obtain ⟨a9, k9, rfl⟩ := o9.shape
  go_wp2_with fail
  refine (heq' (.slice a4 q4.length k4) (.slice a9 q9.length k9) q4 q9 e4 e9 w22 o4.at o9.at hl4).mono ?_
  rintro e w23 ⟨rfl, hb⟩
  replace Bs := Bs.below hb
  replace Bi := Bi.below hb
  replace o3 := o3.below hb
  replace o4 := o4.below hb
  replace b0 := b0.trans (hb.mono b0.size)
  clear hb
  clear o9 e9 n9 u9 hs9 hl9
  go_wp2
  go_ret
  exact ⟨rfl, b0⟩

end Go.Proofs.Ytbdphnmkpkgdeaa

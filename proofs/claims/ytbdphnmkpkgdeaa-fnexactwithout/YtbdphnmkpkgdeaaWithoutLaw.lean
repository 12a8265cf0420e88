/- The law FnExactWithout, walked: at every two lists of transactions that can be read it answers true, and it writes into nothing that was there. -/
import Derived.Test.YtbdphnmkpkgdeaaN8
namespace Go.Proofs.Ytbdphnmkpkgdeaa
open Go.RowKit
open Go.BigFrame
set_option linter.unusedVariables false
set_option linter.unusedSimpArgs false

theorem specWithout_e (v v' : Value) (ps ps' : List TxnQ) (ds ds' : List TxnD) (hx : ps.map TxnQ.e = ds) (hx' : ps'.map TxnQ.e = ds') (w : World) (h : txnK.Own w v ps) (h' : txnK.Own w v' ps') (hl : ps.length + nmL TxnQ.n ps ≤ 1048576) (hl' : ps'.length + nmL TxnQ.n ps' ≤ 1048576) :
    Calls Try.prog 16 #[v, v'] w fun e w' => ∃ (v1 : Value) (q1 : List TxnQ), e = .returned (.agg #[.int .i64 (bthF ds ds'), v1]) ∧ q1.map TxnQ.e = (wiL ds ds') ∧ txnK.Own w' v1 q1 ∧ (txnK.fp v1 q1).Nodup ∧ (∀ k ∈ txnK.fp v1 q1, w.heap.size ≤ k) ∧ Below w.heap.size w w' := by
  subst hx hx'
  exact specWithout_any v v' ps ps' w h.at h'.at h.capOk h'.capOk hl hl'
theorem implWithout_e (v v' : Value) (ps ps' : List TxnQ) (ds ds' : List TxnD) (hx : ps.map TxnQ.e = ds) (hx' : ps'.map TxnQ.e = ds') (w : World) (h : txnK.Own w v ps) (h' : txnK.Own w v' ps') (hl : ps.length + nmL TxnQ.n ps ≤ 1048576) (hl' : ps'.length + nmL TxnQ.n ps' ≤ 1048576) :
    Calls Try.prog 13 #[v, v'] w fun e w' => ∃ (v1 : Value) (q1 : List TxnQ), e = .returned (.agg #[.int .i64 (bthF ds ds'), v1]) ∧ q1.map TxnQ.e = (wiL ds ds') ∧ txnK.Own w' v1 q1 ∧ (txnK.fp v1 q1).Nodup ∧ (∀ k ∈ txnK.fp v1 q1, w.heap.size ≤ k) ∧ Below w.heap.size w w' := by
  subst hx hx'
  exact implWithout_any v v' ps ps' w h.at h'.at hl hl'

set_option maxRecDepth 100000 in
set_option maxHeartbeats 16000000 in
theorem withoutLaw (v : Value) (ps : List TxnQ) (v' : Value) (ps' : List TxnQ) (w : World) (h : txnK.At w v ps) (hn : ps.length ≤ 9223372036854775807) (hwf : ∀ p ∈ ps, TxnQ.wf p) (h' : txnK.At w v' ps') (hn' : ps'.length ≤ 9223372036854775807) (hwf' : ∀ p ∈ ps', TxnQ.wf p) :
    Calls Try.prog 6 #[v, v'] w fun e w' => e = .returned (.bool true) ∧ Below w.heap.size w w' := by
  have hsz := fun w h => szTxns_k v ps 1048576 w h hn hwf (by omega) (by omega)
  have hto := fun w h hl => toTxns_k v ps w h hl
  have hqn : ∀ qs : List TxnQ, qs.map TxnQ.e = ps.map TxnQ.e → qs.length + nmL TxnQ.n qs = ps.length + nmL TxnQ.n ps := fun qs hq => txns_n hq
  have heq := fun v v' (q q' : List TxnQ) (hq : q.map TxnQ.e = ps.map TxnQ.e) (hq' : q'.map TxnQ.e = ps.map TxnQ.e) w h h' hl => eqTxns_k v v' q q' w h h' (hq.trans hq'.symm) hl
  have hrb := fun (w' : World) hb => Kind.At.below (w' := w') h hb
  have hsz' := fun c w h h0 h1 => szTxns_k v' ps' c w h hn' hwf' h0 h1
  have hto' := fun w h hl => toTxns_k v' ps' w h hl
  have hqn' : ∀ qs : List TxnQ, qs.map TxnQ.e = ps'.map TxnQ.e → qs.length + nmL TxnQ.n qs = ps'.length + nmL TxnQ.n ps' := fun qs hq => txns_n hq
  have heq' := fun v v' (q q' : List TxnQ) (hq : q.map TxnQ.e = ps'.map TxnQ.e) (hq' : q'.map TxnQ.e = ps'.map TxnQ.e) w h h' hl => eqTxns_k v v' q q' w h h' (hq.trans hq'.symm) hl
  have hrb' := fun (w' : World) hb => Kind.At.below (w' := w') h' hb
  have hsp := fun v v' qs qs' (hq : qs.map TxnQ.e = ps.map TxnQ.e) (hq' : qs'.map TxnQ.e = ps'.map TxnQ.e) w h h' hl hl' => specWithout_e v v' qs qs' _ _ hq hq' w h h' hl hl'
  have him := fun v v' qs qs' (hq : qs.map TxnQ.e = ps.map TxnQ.e) (hq' : qs'.map TxnQ.e = ps'.map TxnQ.e) w h h' hl hl' => implWithout_e v v' qs qs' _ _ hq hq' w h h' hl hl'
  have hqs0 : Hid (∀ qs : List TxnQ, qs.map TxnQ.e = wiL (ps.map TxnQ.e) (ps'.map TxnQ.e) → ps.length + nmL TxnQ.n ps ≤ 1048576 → ps'.length + nmL TxnQ.n ps' ≤ 1048576 → qs.length + nmL TxnQ.n qs ≤ 1048576) := fun qs hq hp hp' => wi_n hq hp hp'
  generalize bthF (ps.map TxnQ.e) (ps'.map TxnQ.e) = D at *
  generalize wiL (ps.map TxnQ.e) (ps'.map TxnQ.e) = E at *
  generalize ps.map TxnQ.e = ds at *
  generalize ps'.map TxnQ.e = ds' at *
  generalize hpn : ps.length + nmL TxnQ.n ps = pn at *
  generalize hpn' : ps'.length + nmL TxnQ.n ps' = pn' at *
  obtain ⟨a, cap, rfl⟩ := h.shape
  obtain ⟨a', cap', rfl⟩ := h'.shape
  have b0 : Below w.heap.size w w := Below.refl _ _
  go_enter Try.func6, Try.ntmps6
  go_wp2_with fail
  refine (hsz w h).mono ?_
  rintro e w1 ⟨r, rfl, hr, hb⟩
  replace b0 := b0.trans (hb.mono b0.size)
  clear hb
  clear hsz
  by_cases hneg : r < 0
  · go_wp2
    go_ret
    exact ⟨rfl, b0⟩
  have hl : (pn : Int) + r = 1048576 := hr (by omega)
  clear hr
  go_wp2_with fail
  refine (hsz' r w1 (hrb' w1 b0) (by omega) (by omega)).mono ?_
  rintro e w2 ⟨r', rfl, hr, hb⟩
  replace b0 := b0.trans (hb.mono b0.size)
  clear hb
  clear hsz'
  by_cases hneg' : r' < 0
  · go_wp2
    go_ret
    exact ⟨rfl, b0⟩
  have hl' : (pn' : Int) + r' = r := hr (by omega)
  clear hr
  replace hl' : pn' ≤ 1048576 := by omega
  replace hl : pn ≤ 1048576 := by omega
  go_wp2_with fail
  clear hneg hneg'
  have hz1 : w.heap.size ≤ w2.heap.size := b0.size
  refine (hto w2 (hrb w2 b0) hl).mono ?_
  rintro e w11 ⟨v1, q1, rfl, e1, o1, n1, g1, hb⟩
  have u1 : ∀ k ∈ txnK.fp v1 q1, w2.heap.size ≤ k ∧ k < w11.heap.size := fun k hk => ⟨g1 k hk, o1.lt k hk⟩
  have hs1 := hb.size
  have hl1 : q1.length + nmL TxnQ.n q1 ≤ 1048576 := by rw [hqn q1 e1]; exact hl
  replace b0 := b0.trans (hb.mono b0.size)
  clear hb
  clear g1
  obtain ⟨a1, k1, rfl⟩ := o1.shape
  go_wp2_with fail
  have hz2 : w.heap.size ≤ w11.heap.size := b0.size
  refine (hto' w11 (hrb' w11 b0) hl').mono ?_
  rintro e w12 ⟨v2, q2, rfl, e2, o2, n2, g2, hb⟩
  have u2 : ∀ k ∈ txnK.fp v2 q2, w11.heap.size ≤ k ∧ k < w12.heap.size := fun k hk => ⟨g2 k hk, o2.lt k hk⟩
  have hs2 := hb.size
  have hl2 : q2.length + nmL TxnQ.n q2 ≤ 1048576 := by rw [hqn' q2 e2]; exact hl'
  replace o1 := o1.below hb
  replace b0 := b0.trans (hb.mono b0.size)
  clear hb
  clear g2
  obtain ⟨a2, k2, rfl⟩ := o2.shape
  go_wp2_with fail
  have hzs : w.heap.size ≤ w12.heap.size := b0.size
  refine (hsp (.slice a1 q1.length k1) (.slice a2 q2.length k2) q1 q2 e1 e2 w12 o1 o2 hl1 hl2).mono ?_
  rintro e w13 ⟨vsx, qsx, rfl, esx, osx, ns, gs, hb⟩
  have hss := hb.size
  have usx : ∀ k ∈ txnK.fp vsx qsx, w12.heap.size ≤ k ∧ k < w13.heap.size := fun k hk => ⟨gs k hk, osx.lt k hk⟩
  have hlsx : qsx.length + nmL TxnQ.n qsx ≤ 1048576 := hqs0.out qsx esx hl hl'
  replace b0 := b0.trans (hb.mono b0.size)
  clear hb
  clear gs
  obtain ⟨asx, ksx, rfl⟩ := osx.shape
  have Bs := Blk.new w13 31 #[.int .i64 D, .slice asx qsx.length ksx]
  have hb : Below w13.heap.size w13 (w13.alloc (.cells #[.int .i64 D, .slice asx qsx.length ksx] 31)) := by go_grown
  have hBs : w13.heap.size < (w13.alloc (.cells #[.int .i64 D, .slice asx qsx.length ksx] 31)).heap.size := by simp
  replace osx := osx.below hb
  replace b0 := b0.trans (hb.mono b0.size)
  clear hb
  clear o1 e1 n1 u1 hl1 o2 e2 n2 u2 hl2 hsp
  go_wp2_with fail
  generalize w13.alloc (.cells #[.int .i64 D, .slice asx qsx.length ksx] 31) = w14 at *
  have hz3 : w.heap.size ≤ w14.heap.size := b0.size
  refine (hto w14 (hrb w14 b0) hl).mono ?_
  rintro e w15 ⟨v3, q3, rfl, e3, o3, n3, g3, hb⟩
  have u3 : ∀ k ∈ txnK.fp v3 q3, w14.heap.size ≤ k ∧ k < w15.heap.size := fun k hk => ⟨g3 k hk, o3.lt k hk⟩
  have hs3 := hb.size
  have hl3 : q3.length + nmL TxnQ.n q3 ≤ 1048576 := by rw [hqn q3 e3]; exact hl
  replace Bs := Bs.below hb
  replace osx := osx.below hb
  replace b0 := b0.trans (hb.mono b0.size)
  clear hb
  clear g3
  obtain ⟨a3, k3, rfl⟩ := o3.shape
  go_wp2_with fail
  have hz4 : w.heap.size ≤ w15.heap.size := b0.size
  refine (hto' w15 (hrb' w15 b0) hl').mono ?_
  rintro e w16 ⟨v4, q4, rfl, e4, o4, n4, g4, hb⟩
  have u4 : ∀ k ∈ txnK.fp v4 q4, w15.heap.size ≤ k ∧ k < w16.heap.size := fun k hk => ⟨g4 k hk, o4.lt k hk⟩
  have hs4 := hb.size
  have hl4 : q4.length + nmL TxnQ.n q4 ≤ 1048576 := by rw [hqn' q4 e4]; exact hl'
  replace Bs := Bs.below hb
  replace osx := osx.below hb
  replace o3 := o3.below hb
  replace b0 := b0.trans (hb.mono b0.size)
  clear hb
  clear g4
  obtain ⟨a4, k4, rfl⟩ := o4.shape
  go_wp2_with fail
  have hzi : w.heap.size ≤ w16.heap.size := b0.size
  refine (him (.slice a3 q3.length k3) (.slice a4 q4.length k4) q3 q4 e3 e4 w16 o3 o4 hl3 hl4).mono ?_
  rintro e w17 ⟨vix, qix, rfl, eix, oix, ni, gi, hb⟩
  have hsi := hb.size
  have uix : ∀ k ∈ txnK.fp vix qix, w16.heap.size ≤ k ∧ k < w17.heap.size := fun k hk => ⟨gi k hk, oix.lt k hk⟩
  have hlix : qix.length + nmL TxnQ.n qix ≤ 1048576 := hqs0.out qix eix hl hl'
  replace Bs := Bs.below hb
  replace osx := osx.below hb
  replace o3 := o3.below hb
  replace o4 := o4.below hb
  replace b0 := b0.trans (hb.mono b0.size)
  clear hb
  clear gi
  obtain ⟨aix, kix, rfl⟩ := oix.shape
  have Bi := Blk.new w17 31 #[.int .i64 D, .slice aix qix.length kix]
  have hb : Below w17.heap.size w17 (w17.alloc (.cells #[.int .i64 D, .slice aix qix.length kix] 31)) := by go_grown
  have hBi : w17.heap.size < (w17.alloc (.cells #[.int .i64 D, .slice aix qix.length kix] 31)).heap.size := by simp
  replace Bs := Bs.below hb
  replace osx := osx.below hb
  replace o3 := o3.below hb
  replace o4 := o4.below hb
  replace oix := oix.below hb
  replace b0 := b0.trans (hb.mono b0.size)
  clear hb
  have r0 := Bs.cell 0 _ rfl
  have r1 := Bs.cell 1 _ rfl
  go_wp2_with fail
  clear r0 r1
  generalize w17.alloc (.cells #[.int .i64 D, .slice aix qix.length kix] 31) = w18 at *
  refine (eqTXR_k D (.slice aix qix.length kix) (.slice asx qsx.length ksx) qix qsx w18 oix.at osx.at (eix.trans esx.symm) hlix).mono ?_
  rintro e w19 ⟨rfl, hb⟩
  replace Bs := Bs.below hb
  replace Bi := Bi.below hb
  replace osx := osx.below hb
  replace o3 := o3.below hb
  replace o4 := o4.below hb
  replace oix := oix.below hb
  replace b0 := b0.trans (hb.mono b0.size)
  clear hb
  go_wp2_with fail
  have hz9 : w.heap.size ≤ w19.heap.size := b0.size
  refine (hto w19 (hrb w19 b0) hl).mono ?_
  rintro e w20 ⟨v9, q9, rfl, e9, o9, n9, g9, hb⟩
  have u9 : ∀ k ∈ txnK.fp v9 q9, w19.heap.size ≤ k ∧ k < w20.heap.size := fun k hk => ⟨g9 k hk, o9.lt k hk⟩
  have hs9 := hb.size
  have hl9 : q9.length + nmL TxnQ.n q9 ≤ 1048576 := by rw [hqn q9 e9]; exact hl
  replace Bs := Bs.below hb
  replace Bi := Bi.below hb
  replace osx := osx.below hb
  replace o3 := o3.below hb
  replace o4 := o4.below hb
  replace oix := oix.below hb
  replace b0 := b0.trans (hb.mono b0.size)
  clear hb
  clear g9
  obtain ⟨a9, k9, rfl⟩ := o9.shape
  go_wp2_with fail
  refine (heq (.slice a3 q3.length k3) (.slice a9 q9.length k9) q3 q9 e3 e9 w20 o3.at o9.at hl3).mono ?_
  rintro e w21 ⟨rfl, hb⟩
  replace Bs := Bs.below hb
  replace Bi := Bi.below hb
  replace osx := osx.below hb
  replace o3 := o3.below hb
  replace o4 := o4.below hb
  replace oix := oix.below hb
  replace b0 := b0.trans (hb.mono b0.size)
  clear hb
  clear o9 e9 n9 u9 hs9 hl9 hz9
  go_wp2_with fail
  have hz9 : w.heap.size ≤ w21.heap.size := b0.size
  refine (hto' w21 (hrb' w21 b0) hl').mono ?_
  rintro e w22 ⟨v9, q9, rfl, e9, o9, n9, g9, hb⟩
  have u9 : ∀ k ∈ txnK.fp v9 q9, w21.heap.size ≤ k ∧ k < w22.heap.size := fun k hk => ⟨g9 k hk, o9.lt k hk⟩
  have hs9 := hb.size
  have hl9 : q9.length + nmL TxnQ.n q9 ≤ 1048576 := by rw [hqn' q9 e9]; exact hl'
  replace Bs := Bs.below hb
  replace Bi := Bi.below hb
  replace osx := osx.below hb
  replace o3 := o3.below hb
  replace o4 := o4.below hb
  replace oix := oix.below hb
  replace b0 := b0.trans (hb.mono b0.size)
  clear hb
  clear g9
  obtain ⟨a9, k9, rfl⟩ := o9.shape
  go_wp2_with fail
  refine (heq' (.slice a4 q4.length k4) (.slice a9 q9.length k9) q4 q9 e4 e9 w22 o4.at o9.at hl4).mono ?_
  rintro e w23 ⟨rfl, hb⟩
  replace Bs := Bs.below hb
  replace Bi := Bi.below hb
  replace osx := osx.below hb
  replace o3 := o3.below hb
  replace o4 := o4.below hb
  replace oix := oix.below hb
  replace b0 := b0.trans (hb.mono b0.size)
  clear hb
  clear o9 e9 n9 u9 hs9 hl9 hz9
  go_wp2_with fail
  have hm3 := nmTxn_le q3
  refine (markTxns_k (.slice a3 q3.length k3) q3 (1) w23 o3 n3 hl3 (by omega) (by omega)).mono ?_
  rintro e w24 ⟨rfl, _, hU⟩
  have hV3 : ∀ k ∈ txnK.fp (.slice a3 q3.length k3) q3, _ := u3
  have hNU : ∀ k, k ∈ txnK.fp (.slice a3 q3.length k3) q3 → _ := u3
  replace Bs := Bs.outs8 hU (fun hk => by have := hNU _ hk; omega)
  replace Bi := Bi.outs8 hU (fun hk => by have := hNU _ hk; omega)
  replace osx := osx.out hU (fun k hk hk' => by have := hNU _ hk'; have := usx k hk; omega)
  replace o4 := o4.out hU (fun k hk hk' => by have := hNU _ hk'; have := u4 k hk; omega)
  replace oix := oix.out hU (fun k hk hk' => by have := hNU _ hk'; have := uix k hk; omega)
  replace b0 := Out.keep b0 hU b0.size (fun k hk => by have := hNU _ hk; omega)
  clear hNU hU
  clear o3 hV3
  generalize hM3 : (nmL nmTxn q3 : Int) = M3 at *
  have hm3' : 0 ≤ M3 ∧ M3 ≤ 3145728 := by omega
  clear hm3 hM3
  go_wp2_with fail
  have hm4 := nmTxn_le q4
  refine (markTxns_k (.slice a4 q4.length k4) q4 (1 + M3) w24 o4 n4 hl4 (by omega) (by omega)).mono ?_
  rintro e w25 ⟨rfl, _, hU⟩
  have hV4 : ∀ k ∈ txnK.fp (.slice a4 q4.length k4) q4, _ := u4
  have hNU : ∀ k, k ∈ txnK.fp (.slice a4 q4.length k4) q4 → _ := u4
  replace Bs := Bs.outs8 hU (fun hk => by have := hNU _ hk; omega)
  replace Bi := Bi.outs8 hU (fun hk => by have := hNU _ hk; omega)
  replace osx := osx.out hU (fun k hk hk' => by have := hNU _ hk'; have := usx k hk; omega)
  replace oix := oix.out hU (fun k hk hk' => by have := hNU _ hk'; have := uix k hk; omega)
  replace b0 := Out.keep b0 hU b0.size (fun k hk => by have := hNU _ hk; omega)
  clear hNU hU
  clear o4 hV4
  generalize hM4 : (nmL nmTxn q4 : Int) = M4 at *
  have hm4' : 0 ≤ M4 ∧ M4 ≤ 3145728 := by omega
  clear hm4 hM4
  have hpos : ¬ (1 + M3 + M4 < 0) := by omega
  have p0 := Bi.cell 0 _ rfl
  have p1 := Bi.cell 1 _ rfl
  have r0 := Bs.cell 0 _ rfl
  have r1 := Bs.cell 1 _ rfl
  go_wp2_with fail
  clear p0 p1
  clear r0 r1
  refine (eqTXR_k D (.slice aix qix.length kix) (.slice asx qsx.length ksx) qix qsx w25 oix.at osx.at (eix.trans esx.symm) hlix).mono ?_
  rintro e w26 ⟨rfl, hb⟩
  replace Bs := Bs.below hb
  replace Bi := Bi.below hb
  replace osx := osx.below hb
  replace oix := oix.below hb
  replace b0 := b0.trans (hb.mono b0.size)
  clear hb
  have p0 := Bi.cell 0 _ rfl
  have p1 := Bi.cell 1 _ rfl
  go_wp2_with fail
  clear p0 p1
  have hmx := nmTxn_le qix
  refine (markTXR_k D (.slice aix qix.length kix) qix 1 w26 oix ni hlix (by omega) (by omega)).mono ?_
  rintro e w27 ⟨rfl, omx, hU⟩
  have uI : ∀ k ∈ txnK.fp (.slice aix qix.length kix) qix, _ := uix
  have hNU : ∀ k, k ∈ txnK.fp (.slice aix qix.length kix) qix → _ := uI
  replace Bs := Bs.outs8 hU (fun hk => by have := hNU _ hk; omega)
  replace Bi := Bi.outs8 hU (fun hk => by have := hNU _ hk; omega)
  replace osx := osx.out hU (fun k hk hk' => by have := hNU _ hk'; have := usx k hk; omega)
  replace b0 := Out.keep b0 hU b0.size (fun k hk => by have := hNU _ hk; omega)
  clear hNU hU
  clear oix
  have rmx := omx.at
  clear omx
  have hmmx : Hid (∀ w', Below w27.heap.size w27 w' → txnK.At w' (.slice aix qix.length kix) (mkL mkTxn nmTxn 1 qix)) := fun w' hb => rmx.below hb
  have hbq : Below w27.heap.size w27 w27 := Below.refl _ _
  have hhe := fun w h => heldTXR_k D (.slice aix qix.length kix) qix 1 w h hlix (by omega) (by omega)
  generalize hMx : (nmL nmTxn qix : Int) = Mx at *
  have hmx' : 0 ≤ Mx ∧ Mx ≤ 3145728 := by omega
  have hpi : ¬ (1 + Mx < 0) := by omega
  have hne : ((1 + Mx) != (1 + Mx)) = false := by simp
  clear hmx hMx rmx
  have p0 := Bi.cell 0 _ rfl
  have p1 := Bi.cell 1 _ rfl
  go_wp2_with fail
  clear p0 p1
  refine (hhe w27 (hmmx.out _ hbq)).mono ?_
  rintro e w28 ⟨rfl, hb⟩
  replace Bs := Bs.below hb
  replace Bi := Bi.below hb
  replace osx := osx.below hb
  replace b0 := b0.trans (hb.mono b0.size)
  replace hbq := hbq.trans (hb.mono hbq.size)
  clear hb
  go_wp2_with fail
  have hz5 : w.heap.size ≤ w28.heap.size := b0.size
  refine (hto w28 (hrb w28 b0) hl).mono ?_
  rintro e w29 ⟨v5, q5, rfl, e5, o5, n5, g5, hb⟩
  have u5 : ∀ k ∈ txnK.fp v5 q5, w28.heap.size ≤ k ∧ k < w29.heap.size := fun k hk => ⟨g5 k hk, o5.lt k hk⟩
  have hs5 := hb.size
  have hl5 : q5.length + nmL TxnQ.n q5 ≤ 1048576 := by rw [hqn q5 e5]; exact hl
  replace Bs := Bs.below hb
  replace Bi := Bi.below hb
  replace osx := osx.below hb
  replace b0 := b0.trans (hb.mono b0.size)
  replace hbq := hbq.trans (hb.mono hbq.size)
  clear hb
  clear g5
  obtain ⟨a5, k5, rfl⟩ := o5.shape
  go_wp2_with fail
  have hz6 : w.heap.size ≤ w29.heap.size := b0.size
  refine (hto' w29 (hrb' w29 b0) hl').mono ?_
  rintro e w30 ⟨v6, q6, rfl, e6, o6, n6, g6, hb⟩
  have u6 : ∀ k ∈ txnK.fp v6 q6, w29.heap.size ≤ k ∧ k < w30.heap.size := fun k hk => ⟨g6 k hk, o6.lt k hk⟩
  have hs6 := hb.size
  have hl6 : q6.length + nmL TxnQ.n q6 ≤ 1048576 := by rw [hqn' q6 e6]; exact hl'
  replace Bs := Bs.below hb
  replace Bi := Bi.below hb
  replace osx := osx.below hb
  replace o5 := o5.below hb
  replace b0 := b0.trans (hb.mono b0.size)
  replace hbq := hbq.trans (hb.mono hbq.size)
  clear hb
  clear g6
  obtain ⟨a6, k6, rfl⟩ := o6.shape
  go_wp2_with fail
  have hzh : w.heap.size ≤ w30.heap.size := b0.size
  refine (him (.slice a5 q5.length k5) (.slice a6 q6.length k6) q5 q6 e5 e6 w30 o5 o6 hl5 hl6).mono ?_
  rintro e w31 ⟨vhx, qhx, rfl, ehx, ohx, nh, gh, hb⟩
  have hsh := hb.size
  have uhx : ∀ k ∈ txnK.fp vhx qhx, w30.heap.size ≤ k ∧ k < w31.heap.size := fun k hk => ⟨gh k hk, ohx.lt k hk⟩
  have hlhx : qhx.length + nmL TxnQ.n qhx ≤ 1048576 := hqs0.out qhx ehx hl hl'
  replace Bs := Bs.below hb
  replace Bi := Bi.below hb
  replace osx := osx.below hb
  replace o5 := o5.below hb
  replace o6 := o6.below hb
  replace b0 := b0.trans (hb.mono b0.size)
  replace hbq := hbq.trans (hb.mono hbq.size)
  clear hb
  clear gh
  obtain ⟨ahx, khx, rfl⟩ := ohx.shape
  have Bh := Blk.new w31 31 #[.int .i64 D, .slice ahx qhx.length khx]
  have hb : Below w31.heap.size w31 (w31.alloc (.cells #[.int .i64 D, .slice ahx qhx.length khx] 31)) := by go_grown
  have hBh : w31.heap.size < (w31.alloc (.cells #[.int .i64 D, .slice ahx qhx.length khx] 31)).heap.size := by simp
  replace Bs := Bs.below hb
  replace Bi := Bi.below hb
  replace osx := osx.below hb
  replace o5 := o5.below hb
  replace o6 := o6.below hb
  replace ohx := ohx.below hb
  replace b0 := b0.trans (hb.mono b0.size)
  replace hbq := hbq.trans (hb.mono hbq.size)
  clear hb
  have r0 := Bs.cell 0 _ rfl
  have r1 := Bs.cell 1 _ rfl
  go_wp2_with fail
  clear r0 r1
  generalize w31.alloc (.cells #[.int .i64 D, .slice ahx qhx.length khx] 31) = w32 at *
  refine (eqTXR_k D (.slice ahx qhx.length khx) (.slice asx qsx.length ksx) qhx qsx w32 ohx.at osx.at (ehx.trans esx.symm) hlhx).mono ?_
  rintro e w33 ⟨rfl, hb⟩
  replace Bs := Bs.below hb
  replace Bi := Bi.below hb
  replace Bh := Bh.below hb
  replace osx := osx.below hb
  replace o5 := o5.below hb
  replace o6 := o6.below hb
  replace ohx := ohx.below hb
  replace b0 := b0.trans (hb.mono b0.size)
  replace hbq := hbq.trans (hb.mono hbq.size)
  clear hb
  have p0 := Bi.cell 0 _ rfl
  have p1 := Bi.cell 1 _ rfl
  go_wp2_with fail
  clear p0 p1
  refine (hhe w33 (hmmx.out _ hbq)).mono ?_
  rintro e w34 ⟨rfl, hb⟩
  replace b0 := b0.trans (hb.mono b0.size)
  clear hb hhe hmmx hbq
  go_wp2
  go_ret
  exact ⟨rfl, b0⟩

end Go.Proofs.Ytbdphnmkpkgdeaa

/- The law FnExactSubmittedIn, walked: at every list of steps that can be read it answers true, and it writes into nothing that was there. -/
import Derived.Test.YtkkdjgiencilbaaSq13
namespace Go.Proofs.Ytkkdjgiencilbaa
open Go.RowKit
open Go.BigFrame
set_option linter.unusedVariables false
set_option linter.unusedSimpArgs false

theorem specSubmittedIn_e (v : Value) (ps : List StepQ) (ds : List StepD) (hx : ps.map StepQ.e = ds) (w : World) (h : stepK.Own w v ps) (hl : ps.length + nmL StepQ.n ps ≤ 1048576) :
    Calls Try.prog 18 #[v] w fun e w' => ∃ (v1 : Value) (q1 : List TxnQ), e = .returned (.agg #[.int .i64 (suC ds), v1]) ∧ q1.map TxnQ.e = (suL ds) ∧ txnK.Own w' v1 q1 ∧ (txnK.fp v1 q1).Nodup ∧ (∀ k ∈ txnK.fp v1 q1, w.heap.size ≤ k) ∧ Below w.heap.size w w' := by
  subst hx
  exact specSubmittedIn_any v ps w h.at (niceS h) hl
theorem implSubmittedIn_e (v : Value) (ps : List StepQ) (ds : List StepD) (hx : ps.map StepQ.e = ds) (w : World) (h : stepK.Own w v ps) (hl : ps.length + nmL StepQ.n ps ≤ 1048576) :
    Calls Try.prog 20 #[v] w fun e w' => ∃ (v1 : Value) (q1 : List TxnQ), e = .returned (.agg #[.int .i64 (suC ds), v1]) ∧ q1.map TxnQ.e = (suL ds) ∧ txnK.Own w' v1 q1 ∧ (txnK.fp v1 q1).Nodup ∧ (∀ k ∈ txnK.fp v1 q1, w.heap.size ≤ k) ∧ Below w.heap.size w w' := by
  subst hx
  exact implSubmittedIn_any v ps w h.at (niceS h) hl

set_option maxRecDepth 100000 in
set_option maxHeartbeats 16000000 in
theorem submittedInLaw (v : Value) (ps : List StepQ) (w : World) (h : stepK.At w v ps) (hn : ps.length ≤ 9223372036854775807) (hwf : ∀ p ∈ ps, StepQ.wf p) :
    Calls Try.prog 5 #[v] w fun e w' => e = .returned (.bool true) ∧ Below w.heap.size w w' := by
  have hsz := fun w h => szSteps_k v ps 1048576 w h hn hwf (by omega) (by omega)
  have hto := fun w h hl => toSteps_k v ps w h hl
  have hqn : ∀ qs : List StepQ, qs.map StepQ.e = ps.map StepQ.e → qs.length + nmL StepQ.n qs = ps.length + nmL StepQ.n ps := fun qs hq => steps_n hq
  have heq := fun v v' (q q' : List StepQ) (hq : q.map StepQ.e = ps.map StepQ.e) (hq' : q'.map StepQ.e = ps.map StepQ.e) w h h' hl => eqSteps_k v v' q q' w h h' (hq.trans hq'.symm) hl
  have hrb := fun (w' : World) hb => Kind.At.below (w' := w') h hb
  have hsp := fun v qs (hq : qs.map StepQ.e = ps.map StepQ.e) w h hl => specSubmittedIn_e v qs _ hq w h hl
  have him := fun v qs (hq : qs.map StepQ.e = ps.map StepQ.e) w h hl => implSubmittedIn_e v qs _ hq w h hl
  have hqs0 : Hid (∀ qs : List TxnQ, qs.map TxnQ.e = suL (ps.map StepQ.e) → ps.length + nmL StepQ.n ps ≤ 1048576 → qs.length + nmL TxnQ.n qs ≤ 1048576) := fun qs hq hp => su_n hq hp
  generalize suC (ps.map StepQ.e) = D at *
  generalize suL (ps.map StepQ.e) = E at *
  generalize ps.map StepQ.e = ds at *
  generalize hpn : ps.length + nmL StepQ.n ps = pn at *
  obtain ⟨a, cap, rfl⟩ := h.shape
  have b0 : Below w.heap.size w w := Below.refl _ _
  go_enter Try.func5, Try.ntmps5
  go_wp2_with fail
  refine (hsz w h).mono ?_
  rintro e w1 ⟨r, rfl, hr, hb⟩
  replace b0 := b0.trans (hb.mono b0.size)
  clear hb
  clear hsz
  by_cases hneg : r < 0
  · go_wp2
    go_ret
    exact ⟨rfl, b0⟩
  have hl : (pn : Int) + r = 1048576 := hr (by omega)
  clear hr
  replace hl : pn ≤ 1048576 := by omega
  go_wp2_with fail
  clear hneg
  have hz1 : w.heap.size ≤ w1.heap.size := b0.size
  refine (hto w1 (hrb w1 b0) hl).mono ?_
  rintro e w11 ⟨v1, q1, rfl, e1, o1, n1, g1, hb⟩
  have u1 : ∀ k ∈ stepK.fp v1 q1, w1.heap.size ≤ k ∧ k < w11.heap.size := fun k hk => ⟨g1 k hk, o1.lt k hk⟩
  have hs1 := hb.size
  have hl1 : q1.length + nmL StepQ.n q1 ≤ 1048576 := by rw [hqn q1 e1]; exact hl
  replace b0 := b0.trans (hb.mono b0.size)
  clear hb
  clear g1
  obtain ⟨a1, k1, rfl⟩ := o1.shape
  go_wp2_with fail
  have hzs : w.heap.size ≤ w11.heap.size := b0.size
  refine (hsp (.slice a1 q1.length k1) q1 e1 w11 o1 hl1).mono ?_
  rintro e w12 ⟨vsx, qsx, rfl, esx, osx, ns, gs, hb⟩
  have hss := hb.size
  have usx : ∀ k ∈ txnK.fp vsx qsx, w11.heap.size ≤ k ∧ k < w12.heap.size := fun k hk => ⟨gs k hk, osx.lt k hk⟩
  have hlsx : qsx.length + nmL TxnQ.n qsx ≤ 1048576 := hqs0.out qsx esx hl
  replace b0 := b0.trans (hb.mono b0.size)
  clear hb
  clear gs
  obtain ⟨asx, ksx, rfl⟩ := osx.shape
  have Bs := Blk.new w12 56 #[.int .i64 D, .slice asx qsx.length ksx]
  have hb : Below w12.heap.size w12 (w12.alloc (.cells #[.int .i64 D, .slice asx qsx.length ksx] 56)) := by go_grown
  have hBs : w12.heap.size < (w12.alloc (.cells #[.int .i64 D, .slice asx qsx.length ksx] 56)).heap.size := by simp
  replace osx := osx.below hb
  replace b0 := b0.trans (hb.mono b0.size)
  clear hb
  clear o1 e1 n1 u1 hl1 hsp
  go_wp2_with fail
  generalize w12.alloc (.cells #[.int .i64 D, .slice asx qsx.length ksx] 56) = w13 at *
  have hz3 : w.heap.size ≤ w13.heap.size := b0.size
  refine (hto w13 (hrb w13 b0) hl).mono ?_
  rintro e w14 ⟨v3, q3, rfl, e3, o3, n3, g3, hb⟩
  have u3 : ∀ k ∈ stepK.fp v3 q3, w13.heap.size ≤ k ∧ k < w14.heap.size := fun k hk => ⟨g3 k hk, o3.lt k hk⟩
  have hs3 := hb.size
  have hl3 : q3.length + nmL StepQ.n q3 ≤ 1048576 := by rw [hqn q3 e3]; exact hl
  replace Bs := Bs.below hb
  replace osx := osx.below hb
  replace b0 := b0.trans (hb.mono b0.size)
  clear hb
  clear g3
  obtain ⟨a3, k3, rfl⟩ := o3.shape
  go_wp2_with fail
  have hzi : w.heap.size ≤ w14.heap.size := b0.size
  refine (him (.slice a3 q3.length k3) q3 e3 w14 o3 hl3).mono ?_
  rintro e w15 ⟨vix, qix, rfl, eix, oix, ni, gi, hb⟩
  have hsi := hb.size
  have uix : ∀ k ∈ txnK.fp vix qix, w14.heap.size ≤ k ∧ k < w15.heap.size := fun k hk => ⟨gi k hk, oix.lt k hk⟩
  have hlix : qix.length + nmL TxnQ.n qix ≤ 1048576 := hqs0.out qix eix hl
  replace Bs := Bs.below hb
  replace osx := osx.below hb
  replace o3 := o3.below hb
  replace b0 := b0.trans (hb.mono b0.size)
  clear hb
  clear gi
  obtain ⟨aix, kix, rfl⟩ := oix.shape
  have Bi := Blk.new w15 56 #[.int .i64 D, .slice aix qix.length kix]
  have hb : Below w15.heap.size w15 (w15.alloc (.cells #[.int .i64 D, .slice aix qix.length kix] 56)) := by go_grown
  have hBi : w15.heap.size < (w15.alloc (.cells #[.int .i64 D, .slice aix qix.length kix] 56)).heap.size := by simp
  replace Bs := Bs.below hb
  replace osx := osx.below hb
  replace o3 := o3.below hb
  replace oix := oix.below hb
  replace b0 := b0.trans (hb.mono b0.size)
  clear hb
  obtain ⟨r0, r1⟩ := Bs.cel2
  go_wp2_with fail
  clear r0 r1
  generalize w15.alloc (.cells #[.int .i64 D, .slice aix qix.length kix] 56) = w16 at *
  refine (eqTXR_k D (.slice aix qix.length kix) (.slice asx qsx.length ksx) qix qsx w16 oix.at osx.at (eix.trans esx.symm) hlix).mono ?_
  rintro e w17 ⟨rfl, hb⟩
  replace Bs := Bs.below hb
  replace Bi := Bi.below hb
  replace osx := osx.below hb
  replace o3 := o3.below hb
  replace oix := oix.below hb
  replace b0 := b0.trans (hb.mono b0.size)
  clear hb
  go_wp2_with fail
  have hz9 : w.heap.size ≤ w17.heap.size := b0.size
  refine (hto w17 (hrb w17 b0) hl).mono ?_
  rintro e w18 ⟨v9, q9, rfl, e9, o9, n9, g9, hb⟩
  have u9 : ∀ k ∈ stepK.fp v9 q9, w17.heap.size ≤ k ∧ k < w18.heap.size := fun k hk => ⟨g9 k hk, o9.lt k hk⟩
  have hs9 := hb.size
  have hl9 : q9.length + nmL StepQ.n q9 ≤ 1048576 := by rw [hqn q9 e9]; exact hl
  replace Bs := Bs.below hb
  replace Bi := Bi.below hb
  replace osx := osx.below hb
  replace o3 := o3.below hb
  replace oix := oix.below hb
  replace b0 := b0.trans (hb.mono b0.size)
  clear hb
  clear g9
  obtain ⟨a9, k9, rfl⟩ := o9.shape
  go_wp2_with fail
  refine (heq (.slice a3 q3.length k3) (.slice a9 q9.length k9) q3 q9 e3 e9 w18 o3.at o9.at hl3).mono ?_
  rintro e w19 ⟨rfl, hb⟩
  replace Bs := Bs.below hb
  replace Bi := Bi.below hb
  replace osx := osx.below hb
  replace o3 := o3.below hb
  replace oix := oix.below hb
  replace b0 := b0.trans (hb.mono b0.size)
  clear hb
  clear o9 e9 n9 u9 hs9 hl9 hz9
  go_wp2_with fail
  have hm3 := nmStep_le q3
  refine (markSteps_k (.slice a3 q3.length k3) q3 (1) w19 o3 n3 hl3 (by omega) (by omega)).mono ?_
  rintro e w20 ⟨rfl, _, hU⟩
  have hV3 : ∀ k ∈ stepK.fp (.slice a3 q3.length k3) q3, _ := u3
  have hNU : ∀ k, k ∈ stepK.fp (.slice a3 q3.length k3) q3 → _ := u3
  replace Bs := Bs.outs8 hU (fun hk => by have := hNU _ hk; omega)
  replace Bi := Bi.outs8 hU (fun hk => by have := hNU _ hk; omega)
  replace osx := osx.out hU (fun k hk hk' => by have := hNU _ hk'; have := usx k hk; omega)
  replace oix := oix.out hU (fun k hk hk' => by have := hNU _ hk'; have := uix k hk; omega)
  replace b0 := Out.keep b0 hU b0.size (fun k hk => by have := hNU _ hk; omega)
  clear hNU hU
  clear o3 hV3
  generalize hM3 : (nmL nmStep q3 : Int) = M3 at *
  have hm3' : 0 ≤ M3 ∧ M3 ≤ 10485760 := by omega
  clear hm3 hM3
  have hpos : ¬ (1 + M3 < 0) := by omega
  obtain ⟨p0, p1⟩ := Bi.cel2
  obtain ⟨r0, r1⟩ := Bs.cel2
  go_wp2_with fail
  clear p0 p1
  clear r0 r1
  refine (eqTXR_k D (.slice aix qix.length kix) (.slice asx qsx.length ksx) qix qsx w20 oix.at osx.at (eix.trans esx.symm) hlix).mono ?_
  rintro e w21 ⟨rfl, hb⟩
  replace Bs := Bs.below hb
  replace Bi := Bi.below hb
  replace osx := osx.below hb
  replace oix := oix.below hb
  replace b0 := b0.trans (hb.mono b0.size)
  clear hb
  obtain ⟨p0, p1⟩ := Bi.cel2
  go_wp2_with fail
  clear p0 p1
  have hmx := nmTxn_le qix
  refine (markTXR_k D (.slice aix qix.length kix) qix 1 w21 oix ni hlix (by omega) (by omega)).mono ?_
  rintro e w22 ⟨rfl, omx, hU⟩
  have uI : ∀ k ∈ txnK.fp (.slice aix qix.length kix) qix, _ := uix
  have hNU : ∀ k, k ∈ txnK.fp (.slice aix qix.length kix) qix → _ := uI
  replace Bs := Bs.outs8 hU (fun hk => by have := hNU _ hk; omega)
  replace Bi := Bi.outs8 hU (fun hk => by have := hNU _ hk; omega)
  replace osx := osx.out hU (fun k hk hk' => by have := hNU _ hk'; have := usx k hk; omega)
  replace b0 := Out.keep b0 hU b0.size (fun k hk => by have := hNU _ hk; omega)
  clear hNU hU
  clear oix
  have rmx := omx.at
  clear omx
  have hmmx : Hid (∀ w', Below w22.heap.size w22 w' → txnK.At w' (.slice aix qix.length kix) (mkL mkTxn nmTxn 1 qix)) := fun w' hb => rmx.below hb
  have hbq : Below w22.heap.size w22 w22 := Below.refl _ _
  have hhe := fun w h => heldTXR_k D (.slice aix qix.length kix) qix 1 w h hlix (by omega) (by omega)
  generalize hMx : (nmL nmTxn qix : Int) = Mx at *
  have hmx' : 0 ≤ Mx ∧ Mx ≤ 3145728 := by omega
  have hpi : ¬ (1 + Mx < 0) := by omega
  have hne : ((1 + Mx) != (1 + Mx)) = false := by simp
  clear hmx hMx rmx
  obtain ⟨p0, p1⟩ := Bi.cel2
  go_wp2_with fail
  clear p0 p1
  refine (hhe w22 (hmmx.out _ hbq)).mono ?_
  rintro e w23 ⟨rfl, hb⟩
  replace Bs := Bs.below hb
  replace Bi := Bi.below hb
  replace osx := osx.below hb
  replace b0 := b0.trans (hb.mono b0.size)
  replace hbq := hbq.trans (hb.mono hbq.size)
  clear hb
  go_wp2_with fail
  have hz5 : w.heap.size ≤ w23.heap.size := b0.size
  refine (hto w23 (hrb w23 b0) hl).mono ?_
  rintro e w24 ⟨v5, q5, rfl, e5, o5, n5, g5, hb⟩
  have u5 : ∀ k ∈ stepK.fp v5 q5, w23.heap.size ≤ k ∧ k < w24.heap.size := fun k hk => ⟨g5 k hk, o5.lt k hk⟩
  have hs5 := hb.size
  have hl5 : q5.length + nmL StepQ.n q5 ≤ 1048576 := by rw [hqn q5 e5]; exact hl
  replace Bs := Bs.below hb
  replace Bi := Bi.below hb
  replace osx := osx.below hb
  replace b0 := b0.trans (hb.mono b0.size)
  replace hbq := hbq.trans (hb.mono hbq.size)
  clear hb
  clear g5
  obtain ⟨a5, k5, rfl⟩ := o5.shape
  go_wp2_with fail
  have hzh : w.heap.size ≤ w24.heap.size := b0.size
  refine (him (.slice a5 q5.length k5) q5 e5 w24 o5 hl5).mono ?_
  rintro e w25 ⟨vhx, qhx, rfl, ehx, ohx, nh, gh, hb⟩
  have hsh := hb.size
  have uhx : ∀ k ∈ txnK.fp vhx qhx, w24.heap.size ≤ k ∧ k < w25.heap.size := fun k hk => ⟨gh k hk, ohx.lt k hk⟩
  have hlhx : qhx.length + nmL TxnQ.n qhx ≤ 1048576 := hqs0.out qhx ehx hl
  replace Bs := Bs.below hb
  replace Bi := Bi.below hb
  replace osx := osx.below hb
  replace o5 := o5.below hb
  replace b0 := b0.trans (hb.mono b0.size)
  replace hbq := hbq.trans (hb.mono hbq.size)
  clear hb
  clear gh
  obtain ⟨ahx, khx, rfl⟩ := ohx.shape
  have Bh := Blk.new w25 56 #[.int .i64 D, .slice ahx qhx.length khx]
  have hb : Below w25.heap.size w25 (w25.alloc (.cells #[.int .i64 D, .slice ahx qhx.length khx] 56)) := by go_grown
  have hBh : w25.heap.size < (w25.alloc (.cells #[.int .i64 D, .slice ahx qhx.length khx] 56)).heap.size := by simp
  replace Bs := Bs.below hb
  replace Bi := Bi.below hb
  replace osx := osx.below hb
  replace o5 := o5.below hb
  replace ohx := ohx.below hb
  replace b0 := b0.trans (hb.mono b0.size)
  replace hbq := hbq.trans (hb.mono hbq.size)
  clear hb
  obtain ⟨r0, r1⟩ := Bs.cel2
  go_wp2_with fail
  clear r0 r1
  generalize w25.alloc (.cells #[.int .i64 D, .slice ahx qhx.length khx] 56) = w26 at *
  refine (eqTXR_k D (.slice ahx qhx.length khx) (.slice asx qsx.length ksx) qhx qsx w26 ohx.at osx.at (ehx.trans esx.symm) hlhx).mono ?_
  rintro e w27 ⟨rfl, hb⟩
  replace Bs := Bs.below hb
  replace Bi := Bi.below hb
  replace Bh := Bh.below hb
  replace osx := osx.below hb
  replace o5 := o5.below hb
  replace ohx := ohx.below hb
  replace b0 := b0.trans (hb.mono b0.size)
  replace hbq := hbq.trans (hb.mono hbq.size)
  clear hb
  obtain ⟨p0, p1⟩ := Bi.cel2
  go_wp2_with fail
  clear p0 p1
  refine (hhe w27 (hmmx.out _ hbq)).mono ?_
  rintro e w28 ⟨rfl, hb⟩
  replace b0 := b0.trans (hb.mono b0.size)
  clear hb hhe hmmx hbq
  go_wp2
  go_ret
  exact ⟨rfl, b0⟩

end Go.Proofs.Ytkkdjgiencilbaa

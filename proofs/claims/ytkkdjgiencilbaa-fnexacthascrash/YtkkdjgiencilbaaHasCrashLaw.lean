/- The law FnExactHasCrash, walked: at every list of steps that can be read it answers true, and it writes into nothing that was there. -/
import Derived.Test.YtkkdjgiencilbaaHc13
namespace Go.Proofs.Ytkkdjgiencilbaa
open Go.RowKit
open Go.BigFrame
set_option linter.unusedVariables false
set_option linter.unusedSimpArgs false

theorem specHasCrash_e (v : Value) (ps : List StepQ) (ds : List StepD) (hx : ps.map StepQ.e = ds) (w : World) (h : stepK.Own w v ps) (hl : ps.length + nmL StepQ.n ps ≤ 1048576) :
    Calls Try.prog 26 #[v] w fun e w' => e = .returned (.bool (hasCr ds)) ∧ Below w.heap.size w w' := by
  subst hx
  exact specHasCrash_any v ps w h.at h.capOk hl
theorem implHasCrash_e (v : Value) (ps : List StepQ) (ds : List StepD) (hx : ps.map StepQ.e = ds) (w : World) (h : stepK.Own w v ps) (hl : ps.length + nmL StepQ.n ps ≤ 1048576) :
    Calls Try.prog 27 #[v] w fun e w' => e = .returned (.bool (hasCr ds)) ∧ Below w.heap.size w w' := by
  subst hx
  exact implHasCrash_any v ps w h.at hl

set_option maxRecDepth 100000 in
set_option maxHeartbeats 16000000 in
theorem hasCrashLaw (v : Value) (ps : List StepQ) (w : World) (h : stepK.At w v ps) (hn : ps.length ≤ 9223372036854775807) (hwf : ∀ p ∈ ps, StepQ.wf p) :
    Calls Try.prog 6 #[v] w fun e w' => e = .returned (.bool true) ∧ Below w.heap.size w w' := by
  have hsz := fun w h => szSteps_k v ps 1048576 w h hn hwf (by omega) (by omega)
  have hto := fun w h hl => toSteps_k v ps w h hl
  have hqn : ∀ qs : List StepQ, qs.map StepQ.e = ps.map StepQ.e → qs.length + nmL StepQ.n qs = ps.length + nmL StepQ.n ps := fun qs hq => steps_n hq
  have heq := fun v v' (q q' : List StepQ) (hq : q.map StepQ.e = ps.map StepQ.e) (hq' : q'.map StepQ.e = ps.map StepQ.e) w h h' hl => eqSteps_k v v' q q' w h h' (hq.trans hq'.symm) hl
  have hrb := fun (w' : World) hb => Kind.At.below (w' := w') h hb
  have hsp := fun v qs (hq : qs.map StepQ.e = ps.map StepQ.e) w h hl => specHasCrash_e v qs _ hq w h hl
  have him := fun v qs (hq : qs.map StepQ.e = ps.map StepQ.e) w h hl => implHasCrash_e v qs _ hq w h hl
  generalize hasCr (ps.map StepQ.e) = D at *
  generalize ps.map StepQ.e = ds at *
  generalize hpn : ps.length + nmL StepQ.n ps = pn at *
  obtain ⟨a, cap, rfl⟩ := h.shape
  have b0 : Below w.heap.size w w := Below.refl _ _
  go_enter Try.func6, Try.ntmps6
  go_wp2_with fail
  refine (hsz w h).mono ?_
  rintro e w1 ⟨r, rfl, hr, hb⟩
  replace b0 := b0.trans (hb.mono b0.size)
  clear hb
  clear hsz
  by_cases hneg : r < 0
  · go_wp2
    go_ret
    exact ⟨rfl, b0⟩
  have hl : (pn : Int) + r = 1048576 := hr (by omega)
  clear hr
  replace hl : pn ≤ 1048576 := by omega
  go_wp2_with fail
  clear hneg
  have hz1 : w.heap.size ≤ w1.heap.size := b0.size
  refine (hto w1 (hrb w1 b0) hl).mono ?_
  rintro e w11 ⟨v1, q1, rfl, e1, o1, n1, g1, hb⟩
  have u1 : ∀ k ∈ stepK.fp v1 q1, w1.heap.size ≤ k ∧ k < w11.heap.size := fun k hk => ⟨g1 k hk, o1.lt k hk⟩
  have hs1 := hb.size
  have hl1 : q1.length + nmL StepQ.n q1 ≤ 1048576 := by rw [hqn q1 e1]; exact hl
  replace b0 := b0.trans (hb.mono b0.size)
  clear hb
  clear g1
  obtain ⟨a1, k1, rfl⟩ := o1.shape
  go_wp2_with fail
  refine (hsp (.slice a1 q1.length k1) q1 e1 w11 o1 hl1).mono ?_
  rintro e w12 ⟨rfl, hb⟩
  replace b0 := b0.trans (hb.mono b0.size)
  clear hb
  clear o1 e1 n1 u1 hl1 hsp
  go_wp2_with fail
  have hz3 : w.heap.size ≤ w12.heap.size := b0.size
  refine (hto w12 (hrb w12 b0) hl).mono ?_
  rintro e w13 ⟨v3, q3, rfl, e3, o3, n3, g3, hb⟩
  have u3 : ∀ k ∈ stepK.fp v3 q3, w12.heap.size ≤ k ∧ k < w13.heap.size := fun k hk => ⟨g3 k hk, o3.lt k hk⟩
  have hs3 := hb.size
  have hl3 : q3.length + nmL StepQ.n q3 ≤ 1048576 := by rw [hqn q3 e3]; exact hl
  replace b0 := b0.trans (hb.mono b0.size)
  clear hb
  clear g3
  obtain ⟨a3, k3, rfl⟩ := o3.shape
  go_wp2_with fail
  refine (him (.slice a3 q3.length k3) q3 e3 w13 o3 hl3).mono ?_
  rintro e w14 ⟨rfl, hb⟩
  replace o3 := o3.below hb
  replace b0 := b0.trans (hb.mono b0.size)
  clear hb
  have hne : (D != D) = false := by simp
  go_wp2_with fail
  have hz9 : w.heap.size ≤ w14.heap.size := b0.size
  refine (hto w14 (hrb w14 b0) hl).mono ?_
  rintro e w15 ⟨v9, q9, rfl, e9, o9, n9, g9, hb⟩
  have u9 : ∀ k ∈ stepK.fp v9 q9, w14.heap.size ≤ k ∧ k < w15.heap.size := fun k hk => ⟨g9 k hk, o9.lt k hk⟩
  have hs9 := hb.size
  have hl9 : q9.length + nmL StepQ.n q9 ≤ 1048576 := by rw [hqn q9 e9]; exact hl
  replace o3 := o3.below hb
  replace b0 := b0.trans (hb.mono b0.size)
  clear hb
  clear g9
  obtain ⟨a9, k9, rfl⟩ := o9.shape
  go_wp2_with fail
  refine (heq (.slice a3 q3.length k3) (.slice a9 q9.length k9) q3 q9 e3 e9 w15 o3.at o9.at hl3).mono ?_
  rintro e w16 ⟨rfl, hb⟩
  replace o3 := o3.below hb
  replace b0 := b0.trans (hb.mono b0.size)
  clear hb
  clear o9 e9 n9 u9 hs9 hl9 hz9
  go_wp2
  go_ret
  exact ⟨rfl, b0⟩

end Go.Proofs.Ytkkdjgiencilbaa

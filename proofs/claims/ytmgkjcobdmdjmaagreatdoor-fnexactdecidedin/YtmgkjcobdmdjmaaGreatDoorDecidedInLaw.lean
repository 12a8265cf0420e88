/- The law FnExactDecidedIn, walked: at every list of instances that can be read it answers true, and it writes into nothing that was there. -/
import Derived.Test.YtmgkjcobdmdjmaaGreatDoorP7
import Derived.Test.YtmgkjcobdmdjmaaGreatDoorR7
namespace Go.Proofs.YtmgkjcobdmdjmaaGreatDoor
open Go.RowKit
open Go.BigFrame
set_option linter.unusedVariables false
set_option maxRecDepth 100000
set_option linter.unusedSimpArgs false

theorem specDecidedIn_e (v : Value) (ps : List InstQ) (ds : List InstE) (hx : ps.map InstQ.e = ds) (w : World) (h : instK.At w v ps) (hl : (ps.length + nmL InstQ.n ps) ≤ 1048576) :
    Calls Tryz.prog 39 #[v] w fun e w' => e = .returned (.agg #[.int .i64 (ordF ds), .int .i64 (diV ds)]) ∧ Below w.heap.size w w' := by
  subst hx
  exact specDecidedIn_any v ps w h hl
theorem implDecidedIn_e (v : Value) (ps : List InstQ) (ds : List InstE) (hx : ps.map InstQ.e = ds) (w : World) (hG : Rul w) (h : instK.At w v ps) (hl : (ps.length + nmL InstQ.n ps) ≤ 1048576) :
    Calls Tryz.prog 30 #[v] w fun e w' => e = .returned (.agg #[.int .i64 (ordF ds), .int .i64 (diV ds)]) ∧ Below w.heap.size w w' := by
  subst hx
  exact implDecidedIn_any v ps w hG h hl

set_option maxHeartbeats 8000000 in
theorem decidedInLaw (v : Value) (ps : List InstQ) (w : World) (hG : Rul w) (h : instK.At w v ps) (hn : ps.length ≤ 9223372036854775807) (hwf : ∀ p ∈ ps, InstQ.wf p) :
    Calls Tryz.prog 6 #[v] w fun e w' => e = .returned (.bool true) ∧ Below w.heap.size w w' := by
  have hsz := fun w h => szInstances_k v ps 1048576 w h hn hwf (by omega) (by omega)
  have hto := fun w h hl => toInstances_k v ps w h hl
  have hsp := fun v qs (hq : qs.map InstQ.e = ps.map InstQ.e) w h hl => specDecidedIn_e v qs _ hq w h hl
  have him := fun v qs (hq : qs.map InstQ.e = ps.map InstQ.e) w hG h hl => implDecidedIn_e v qs _ hq w hG h hl
  have hqn : ∀ qs : List InstQ, qs.map InstQ.e = ps.map InstQ.e → qs.length + nmL InstQ.n qs = ps.length + nmL InstQ.n ps := fun qs hq => insts_n hq
  have heq := fun v v' (q q' : List InstQ) (hq : q.map InstQ.e = ps.map InstQ.e) (hq' : q'.map InstQ.e = ps.map InstQ.e) w h h' hl => eqInstances_k v v' q q' w h h' (hq.trans hq'.symm) hl
  have hrb := fun (w' : World) hb => Kind.At.below (w' := w') h hb
  generalize (ordF (ps.map InstQ.e)) = D at *
  generalize (diV (ps.map InstQ.e)) = E at *
  generalize ps.map InstQ.e = ds at *
  generalize hpn : ps.length + nmL InstQ.n ps = pn at *
  obtain ⟨a, cap, rfl⟩ := h.shape
  have b0 : Below w.heap.size w w := Below.refl _ _
  go_enter Tryz.func6, Tryz.ntmps6
  go_wp2_with fail
  refine (hsz w h).mono ?_
  rintro e w1 ⟨r, rfl, hr, hb⟩
  replace b0 := b0.trans (hb.mono b0.size)
  clear hb
  clear hsz
  by_cases hneg : r < 0
  · go_wp2
    go_ret
    exact ⟨rfl, b0⟩
  have hl : (pn : Int) + r = 1048576 := hr (by omega)
  clear hr
  replace hl : pn ≤ 1048576 := by omega
  go_wp2_with fail
  clear hneg
  refine (hto w1 (hrb w1 b0) hl).mono ?_
  rintro e w2 ⟨v1, q1, rfl, e1, o1, n1, g1, hb⟩
  replace b0 := b0.trans (hb.mono b0.size)
  clear hb
  clear n1 g1
  have hl1 : q1.length + nmL InstQ.n q1 ≤ 1048576 := by rw [hqn q1 e1]; exact hl
  have hs1 := fun w h => hsp v1 q1 e1 w h hl1
  obtain ⟨a1, k1, rfl⟩ := o1.shape
  go_wp2_with fail
  refine (hs1 w2 o1.at).mono ?_
  rintro e w3 ⟨rfl, hb⟩
  replace b0 := b0.trans (hb.mono b0.size)
  clear hb
  clear hs1 hsp o1 hl1 e1
  have S0 := Blk.new w3 56 #[.int .i64 D, .int .i64 E]
  have hb : Below w3.heap.size w3 (w3.alloc (.cells #[.int .i64 D, .int .i64 E] 56)) := by go_grown
  replace b0 := b0.trans (hb.mono b0.size)
  clear hb
  go_wp2_with fail
  generalize w3.alloc (.cells #[.int .i64 D, .int .i64 E] 56) = W3 at *
  refine (hto W3 (hrb W3 b0) hl).mono ?_
  rintro e w4 ⟨v2, q2, rfl, e2, o2, n2, g2, hb⟩
  replace S0 := S0.below hb
  replace b0 := b0.trans (hb.mono b0.size)
  clear hb
  clear n2 g2
  have hl2 : q2.length + nmL InstQ.n q2 ≤ 1048576 := by rw [hqn q2 e2]; exact hl
  have hi2 := fun w hG h => him v2 q2 e2 w hG h hl2
  have he2 := fun v' q' hq' w h h' => heq v2 v' q2 q' e2 hq' w h h' hl2
  obtain ⟨a2, k2, rfl⟩ := o2.shape
  clear him heq
  go_wp2_with fail
  refine (hi2 w4 (hG.below b0) o2.at).mono ?_
  rintro e w5 ⟨rfl, hb⟩
  replace S0 := S0.below hb
  replace o2 := o2.below hb
  replace b0 := b0.trans (hb.mono b0.size)
  clear hb
  clear hi2
  have Y0 := Blk.new w5 56 #[.int .i64 D, .int .i64 E]
  have hb : Below w5.heap.size w5 (w5.alloc (.cells #[.int .i64 D, .int .i64 E] 56)) := by go_grown
  replace S0 := S0.below hb
  replace o2 := o2.below hb
  replace b0 := b0.trans (hb.mono b0.size)
  clear hb
  have r0 := S0.cell 0 _ rfl
  have r1 := S0.cell 1 _ rfl
  go_wp2_with fail
  clear r0 r1
  generalize w5.alloc (.cells #[.int .i64 D, .int .i64 E] 56) = W5 at *
  refine (eqIR_true D E W5).mono ?_
  rintro e w6 ⟨rfl, hb⟩
  replace S0 := S0.below hb
  replace Y0 := Y0.below hb
  replace o2 := o2.below hb
  replace b0 := b0.trans (hb.mono b0.size)
  clear hb
  go_wp2_with fail
  refine (hto w6 (hrb w6 b0) hl).mono ?_
  rintro e w7 ⟨v3, q3, rfl, e3, o3, n3, g3, hb⟩
  replace S0 := S0.below hb
  replace Y0 := Y0.below hb
  replace o2 := o2.below hb
  replace b0 := b0.trans (hb.mono b0.size)
  clear hb
  clear n3 g3 hto
  have he3 := fun w h h' => he2 v3 q3 e3 w h h'
  obtain ⟨a3, k3, rfl⟩ := o3.shape
  clear he2
  go_wp2_with fail
  refine (he3 w7 o2.at o3.at).mono ?_
  rintro e w8 ⟨rfl, hb⟩
  replace b0 := b0.trans (hb.mono b0.size)
  clear hb he3
  go_wp2
  go_ret
  exact ⟨rfl, b0⟩

end Go.Proofs.YtmgkjcobdmdjmaaGreatDoor

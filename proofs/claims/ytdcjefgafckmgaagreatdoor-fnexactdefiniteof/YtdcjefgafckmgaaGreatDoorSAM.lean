/- Texts joined, with what the law reaches alone. -/
import Derived.Test.YtdcjefgafckmgaaGreatDoorSAL
import Derived.Test.YtdcjefgafckmgaaGreatDoorSAI
import Derived.Test.YtdcjefgafckmgaaGreatDoorSAA
import Derived.Deep.Slices
import Derived.Deep.Strs
import Derived.Lib.SmallJoins
import Derived.ProofKit
import Derived.Test.YtdcjefgafckmgaaGreatDoorSAC
import Derived.Test.YtdcjefgafckmgaaGreatDoorSAD
import Derived.Test.YtdcjefgafckmgaaGreatDoorRows
import Derived.Test.YtdcjefgafckmgaaGreatDoorSAB
import Derived.Lib.LaidU8
import Derived.OpenVars
import Derived.LaidMore
import Derived.Stop.LaidErr
import Derived.Stop.Joined
namespace Go.Proofs.YtdcjefgafckmgaaGreatDoor
open Go.RowKit
open Go.BigFrame
set_option linter.unusedVariables false
set_option maxRecDepth 100000
set_option linter.unusedSimpArgs false
theorem specDefiniteOf_e (v : Value) (ps : List InstQ) (n : Int) (ds : List InstE) (hx : ps.map InstQ.e = ds) (w : World) (h : instK.At w v ps) (hl : (ps.length + nmL InstQ.n ps) ≤ 1048576) :
    Calls Tryz.prog 19 #[v, .int .i64 n] w fun e w' => ∃ (v' : Value) (qs : List TxnQ), e = .returned (.agg #[.int .i64 (dfC ds n), v']) ∧ qs.map TxnQ.e = (dfT ds n) ∧ txnK.Own w' v' qs ∧ (txnK.fp v' qs).Nodup ∧ (∀ k ∈ txnK.fp v' qs, w.heap.size ≤ k) ∧ Below w.heap.size w w' := by
  subst hx
  exact specDefiniteOf_any v ps n w h hl

theorem implDefiniteOf_e (v : Value) (ps : List InstQ) (n : Int) (ds : List InstE) (hx : ps.map InstQ.e = ds) (w : World) (hG : Rul w) (h : instK.Own w v ps) (hl : (ps.length + nmL InstQ.n ps) ≤ 1048576) :
    Calls Tryz.prog 8 #[v, .int .i64 n] w fun e w' => ∃ (v' : Value) (qs : List TxnQ), e = .returned (.agg #[.int .i64 (dfC ds n), v']) ∧ qs.map TxnQ.e = (dfT ds n) ∧ txnK.Own w' v' qs ∧ (txnK.fp v' qs).Nodup ∧ (∀ k ∈ txnK.fp v' qs, w.heap.size ≤ k) ∧ Below w.heap.size w w' := by
  subst hx
  exact implDefiniteOf_any v ps n w hG h.at h.capOk hl

set_option maxHeartbeats 8000000 in
theorem definiteOfLaw (v : Value) (ps : List InstQ) (n : Int) (w : World) (hG : Rul w) (h : instK.At w v ps) (hn : ps.length ≤ 9223372036854775807) (hwf : ∀ p ∈ ps, InstQ.wf p) :
    Calls Tryz.prog 5 #[v, .int .i64 n] w fun e w' => e = .returned (.bool true) ∧ Below w.heap.size w w' := by
  have hsz := fun w h => szInstances_k v ps 1048576 w h hn hwf (by omega) (by omega)
  have hto := fun w h hl => toInstances_k v ps w h hl
  have hsp := fun v qs (hq : qs.map InstQ.e = ps.map InstQ.e) w h hl => specDefiniteOf_e v qs n _ hq w h hl
  have him := fun v qs (hq : qs.map InstQ.e = ps.map InstQ.e) w hG h hl => implDefiniteOf_e v qs n _ hq w hG h hl
  have hqn : ∀ qs : List InstQ, qs.map InstQ.e = ps.map InstQ.e → qs.length + nmL InstQ.n qs = ps.length + nmL InstQ.n ps := fun qs hq => insts_n hq
  have heq := fun v v' (q q' : List InstQ) (hq : q.map InstQ.e = ps.map InstQ.e) (hq' : q'.map InstQ.e = ps.map InstQ.e) w h h' hl => eqInstances_k v v' q q' w h h' (hq.trans hq'.symm) hl
  have hrb := fun (w' : World) hb => Kind.At.below (w' := w') h hb
  have hqs : Hid (∀ qs : List TxnQ, qs.map TxnQ.e = (dfT (ps.map InstQ.e) n) → ps.length + nmL InstQ.n ps ≤ 1048576 → qs.length + nmL TxnQ.n qs ≤ 1048576) := fun qs hq hp => dfT_n hq hp
  generalize (dfC (ps.map InstQ.e) n) = D at *
  generalize (dfT (ps.map InstQ.e) n) = E at *
  generalize ps.map InstQ.e = ds at *
  generalize hpn : ps.length + nmL InstQ.n ps = pn at *
  obtain ⟨a, cap, rfl⟩ := h.shape
  have b0 : Below w.heap.size w w := Below.refl _ _
  go_enter Tryz.func5, Tryz.ntmps5
  go_wp2_with fail
  refine (hsz w h).mono ?_
  rintro e w1 ⟨r, rfl, hr, hb⟩
  replace b0 := b0.trans (hb.mono b0.size)
  clear hb
  clear hsz
  by_cases hneg : r < 0
  · go_wp2
    go_ret
    exact ⟨rfl, b0⟩
  have hl : (pn : Int) + r = 1048576 := hr (by omega)
  clear hr
  replace hl : pn ≤ 1048576 := by omega
  go_wp2_with fail
  clear hneg
  refine (hto w1 (hrb w1 b0) hl).mono ?_
  rintro e w2 ⟨v1, q1, rfl, e1, o1, n1, g1, hb⟩
  replace b0 := b0.trans (hb.mono b0.size)
  clear hb
  clear n1 g1
  have hl1 : q1.length + nmL InstQ.n q1 ≤ 1048576 := by rw [hqn q1 e1]; exact hl
  have hs1 := fun w h => hsp v1 q1 e1 w h hl1
  obtain ⟨a1, k1, rfl⟩ := o1.shape
  go_wp2_with fail
  refine (hs1 w2 o1.at).mono ?_
  rintro e w5 ⟨vs, qs, rfl, es, os, ns, gs, hb⟩
  have us : ∀ k ∈ txnK.fp vs qs, w.heap.size ≤ k ∧ k < w5.heap.size := fun k hk => ⟨by have := gs k hk; have := b0.size; omega, os.lt k hk⟩
  replace b0 := b0.trans (hb.mono b0.size)
  clear hb
  clear hs1 hsp o1 hl1 e1 ns gs
  have hw5 : w.heap.size ≤ w5.heap.size := b0.size
  have hls : qs.length + nmL TxnQ.n qs ≤ 1048576 := hqs.out qs es hl
  obtain ⟨as_, ks_, rfl⟩ := os.shape
  have S0 := Blk.new w5 29 #[.int .i64 D, .slice as_ qs.length ks_]
  have hb : Below w5.heap.size w5 (w5.alloc (.cells #[.int .i64 D, .slice as_ qs.length ks_] 29)) := by go_grown
  replace os := os.below hb
  replace b0 := b0.trans (hb.mono b0.size)
  clear hb
  go_wp2_with fail
  generalize w5.alloc (.cells #[.int .i64 D, .slice as_ qs.length ks_] 29) = W5 at *
  refine (hto W5 (hrb W5 b0) hl).mono ?_
  rintro e w6 ⟨v2, q2, rfl, e2, o2, n2, g2, hb⟩
  have hS5 := S0.lt
  have u2 : ∀ k ∈ instK.fp v2 q2, w5.heap.size < k ∧ k < w6.heap.size := fun k hk => ⟨by have := g2 k hk; omega, o2.lt k hk⟩
  replace S0 := S0.below hb
  replace os := os.below hb
  replace b0 := b0.trans (hb.mono b0.size)
  clear hb
  clear g2
  have hw6 : w5.heap.size < w6.heap.size := S0.lt
  have hl2 : q2.length + nmL InstQ.n q2 ≤ 1048576 := by rw [hqn q2 e2]; exact hl
  have hi2 := fun w hG h => him v2 q2 e2 w hG h hl2
  have he2 := fun v' q' hq' w h h' => heq v2 v' q2 q' e2 hq' w h h' hl2
  obtain ⟨a2, k2, rfl⟩ := o2.shape
  go_wp2_with fail
  refine (hi2 w6 (hG.below b0) o2).mono ?_
  rintro e w8 ⟨vi, qi, rfl, ei, oi, ni, gi, hb⟩
  have h78 := hb.size
  have ui : ∀ k ∈ txnK.fp vi qi, w6.heap.size ≤ k ∧ k < w8.heap.size := fun k hk => ⟨gi k hk, oi.lt k hk⟩
  replace S0 := S0.below hb
  replace os := os.below hb
  replace o2 := o2.below hb
  replace b0 := b0.trans (hb.mono b0.size)
  clear hb
  clear gi hi2
  have hli : qi.length + nmL TxnQ.n qi ≤ 1048576 := hqs.out qi ei hl
  obtain ⟨ai, ki, rfl⟩ := oi.shape
  have Y0 := Blk.new w8 29 #[.int .i64 D, .slice ai qi.length ki]
  have hb : Below w8.heap.size w8 (w8.alloc (.cells #[.int .i64 D, .slice ai qi.length ki] 29)) := by go_grown
  replace S0 := S0.below hb
  replace os := os.below hb
  replace o2 := o2.below hb
  replace oi := oi.below hb
  replace b0 := b0.trans (hb.mono b0.size)
  clear hb
  have r0 := S0.cell 0 _ rfl
  have r1 := S0.cell 1 _ rfl
  go_wp2_with fail
  clear r0 r1
  generalize w8.alloc (.cells #[.int .i64 D, .slice ai qi.length ki] 29) = W8 at *
  refine (eqTXR_k D (.slice ai qi.length ki) (.slice as_ qs.length ks_) qi qs _ oi.at os.at (ei.trans es.symm) hli).mono ?_
  rintro e w9 ⟨rfl, hb⟩
  replace S0 := S0.below hb
  replace Y0 := Y0.below hb
  replace os := os.below hb
  replace o2 := o2.below hb
  replace oi := oi.below hb
  replace b0 := b0.trans (hb.mono b0.size)
  clear hb
  go_wp2_with fail
  refine (hto w9 (hrb w9 b0) hl).mono ?_
  rintro e w10 ⟨v3, q3, rfl, e3, o3, n3, g3, hb⟩
  replace S0 := S0.below hb
  replace Y0 := Y0.below hb
  replace os := os.below hb
  replace o2 := o2.below hb
  replace oi := oi.below hb
  replace b0 := b0.trans (hb.mono b0.size)
  clear hb
  clear n3 g3
  have he3 := fun w h h' => he2 v3 q3 e3 w h h'
  obtain ⟨a3, k3, rfl⟩ := o3.shape
  clear he2
  go_wp2_with fail
  refine (he3 w10 o2.at o3.at).mono ?_
  rintro e w11 ⟨rfl, hb⟩
  replace S0 := S0.below hb
  replace Y0 := Y0.below hb
  replace os := os.below hb
  replace o2 := o2.below hb
  replace oi := oi.below hb
  replace b0 := b0.trans (hb.mono b0.size)
  clear hb
  clear he3 o3 e3
  go_wp2_with fail
  have hm2 := nmInsS_le q2
  refine (markInstances_k (.slice a2 q2.length k2) q2 1 _ o2 n2 hl2 (by omega) (by omega)).mono ?_
  rintro e w13 ⟨rfl, _, hU⟩
  have hNU : ∀ k, k ∈ instK.fp (.slice a2 q2.length k2) q2 → w5.heap.size < k ∧ k < w6.heap.size := u2
  replace S0 := S0.outs hU (fun hk => by have := hNU _ hk; omega)
  replace Y0 := Y0.outs hU (fun hk => by have := hNU _ hk; omega)
  replace os := os.out hU (fun k hk hk' => by have := hNU _ hk'; have := us k hk; omega)
  replace oi := oi.out hU (fun k hk hk' => by have := hNU _ hk'; have := ui k hk; omega)
  replace b0 := Out.keep b0 hU b0.size (fun k hk => by have := hNU _ hk; omega)
  clear hNU hU
  clear o2
  generalize hM2 : (nmL nmInsS q2 : Int) = M2 at *
  have hm2' : 0 ≤ M2 ∧ M2 ≤ 3145728 := by omega
  have hpos : ¬ (1 + M2 < 0) := by omega
  clear hm2 hM2
  have p0 := Y0.cell 0 _ rfl
  have p1 := Y0.cell 1 _ rfl
  have r0 := S0.cell 0 _ rfl
  have r1 := S0.cell 1 _ rfl
  go_wp2_with fail
  clear p0 p1
  clear r0 r1
  refine (eqTXR_k D (.slice ai qi.length ki) (.slice as_ qs.length ks_) qi qs _ oi.at os.at (ei.trans es.symm) hli).mono ?_
  rintro e w15 ⟨rfl, hb⟩
  replace S0 := S0.below hb
  replace Y0 := Y0.below hb
  replace os := os.below hb
  replace oi := oi.below hb
  replace b0 := b0.trans (hb.mono b0.size)
  clear hb
  have p0 := Y0.cell 0 _ rfl
  have p1 := Y0.cell 1 _ rfl
  go_wp2_with fail
  clear p0 p1
  have hmi := nmTxn_le qi
  refine (markTXR_k D (.slice ai qi.length ki) qi 1 w15 oi ni hli (by omega) (by omega)).mono ?_
  rintro e w16 ⟨rfl, om, hU⟩
  have hNU : ∀ k, k ∈ txnK.fp (.slice ai qi.length ki) qi → w6.heap.size ≤ k ∧ k < w8.heap.size := ui
  replace S0 := S0.outs hU (fun hk => by have := hNU _ hk; omega)
  replace Y0 := Y0.outs hU (fun hk => by have := hNU _ hk; omega)
  replace os := os.out hU (fun k hk hk' => by have := hNU _ hk'; have := us k hk; omega)
  replace b0 := Out.keep b0 hU b0.size (fun k hk => by have := hNU _ hk; omega)
  clear hNU hU
  clear oi
  have rm := om.at
  clear om
  have hmm : Hid (∀ w', Below w16.heap.size w16 w' → txnK.At w' (.slice ai qi.length ki) (mkL mkTxn nmTxn 1 qi)) := fun w' hb => rm.below hb
  have hbq : Below w16.heap.size w16 w16 := Below.refl _ _
  have hhe := fun w h => heldTXR_k D (.slice ai qi.length ki) qi 1 w h hli (by omega) (by omega)
  generalize hMi : (nmL nmTxn qi : Int) = Mi at *
  have hmi' : 0 ≤ Mi ∧ Mi ≤ 3145728 := by omega
  have hpi : ¬ (1 + Mi < 0) := by omega
  have hne : ((1 + Mi) != (1 + Mi)) = false := by simp
  clear hmi hMi rm
  have p0 := Y0.cell 0 _ rfl
  have p1 := Y0.cell 1 _ rfl
  go_wp2_with fail
  clear p0 p1
  refine (hhe w16 (hmm.out _ hbq)).mono ?_
  rintro e w17 ⟨rfl, hb⟩
  replace hbq := hbq.trans (hb.mono hbq.size)
  replace S0 := S0.below hb
  replace Y0 := Y0.below hb
  replace os := os.below hb
  replace b0 := b0.trans (hb.mono b0.size)
  clear hb
  go_wp2_with fail
  refine (hto w17 (hrb w17 b0) hl).mono ?_
  rintro e w18 ⟨v5, q5, rfl, e5, o5, n5, g5, hb⟩
  replace hbq := hbq.trans (hb.mono hbq.size)
  replace S0 := S0.below hb
  replace Y0 := Y0.below hb
  replace os := os.below hb
  replace b0 := b0.trans (hb.mono b0.size)
  clear hb
  clear n5 g5
  have hi5 := fun w hG h => him v5 q5 e5 w hG h (by rw [hqn q5 e5]; exact hl)
  obtain ⟨a5, k5, rfl⟩ := o5.shape
  go_wp2_with fail
  refine (hi5 w18 (hG.below b0) o5).mono ?_
  rintro e w20 ⟨vh, qh, rfl, eh, oh, nh, gh, hb⟩
  replace hbq := hbq.trans (hb.mono hbq.size)
  replace S0 := S0.below hb
  replace Y0 := Y0.below hb
  replace os := os.below hb
  replace b0 := b0.trans (hb.mono b0.size)
  clear hb
  clear nh gh him hi5 e5 o5 hto
  have hlh : qh.length + nmL TxnQ.n qh ≤ 1048576 := hqs.out qh eh hl
  obtain ⟨ah, kh, rfl⟩ := oh.shape
  have H0 := Blk.new w20 29 #[.int .i64 D, .slice ah qh.length kh]
  have hb : Below w20.heap.size w20 (w20.alloc (.cells #[.int .i64 D, .slice ah qh.length kh] 29)) := by go_grown
  replace hbq := hbq.trans (hb.mono hbq.size)
  replace S0 := S0.below hb
  replace Y0 := Y0.below hb
  replace os := os.below hb
  replace oh := oh.below hb
  replace b0 := b0.trans (hb.mono b0.size)
  clear hb
  have r0 := S0.cell 0 _ rfl
  have r1 := S0.cell 1 _ rfl
  go_wp2_with fail
  clear r0 r1
  generalize w20.alloc (.cells #[.int .i64 D, .slice ah qh.length kh] 29) = W20 at *
  refine (eqTXR_k D (.slice ah qh.length kh) (.slice as_ qs.length ks_) qh qs _ oh.at os.at (eh.trans es.symm) hlh).mono ?_
  rintro e w21 ⟨rfl, hb⟩
  replace hbq := hbq.trans (hb.mono hbq.size)
  replace S0 := S0.below hb
  replace Y0 := Y0.below hb
  replace H0 := H0.below hb
  replace os := os.below hb
  replace oh := oh.below hb
  replace b0 := b0.trans (hb.mono b0.size)
  clear hb
  have p0 := Y0.cell 0 _ rfl
  have p1 := Y0.cell 1 _ rfl
  go_wp2_with fail
  clear p0 p1
  refine (hhe w21 (hmm.out _ hbq)).mono ?_
  rintro e w22 ⟨rfl, hb⟩
  replace b0 := b0.trans (hb.mono b0.size)
  clear hb hhe hmm hbq S0 Y0 H0 os oh
  go_wp2
  go_ret
  exact ⟨rfl, b0⟩

end Go.Proofs.YtdcjefgafckmgaaGreatDoor
namespace Go.Proofs.YtdcjefgafckmgaaGreatDoor
open Go.RowKit Go.Deep Go.ChangeShapes Go.WideShapes
set_option linter.unusedVariables false
set_option maxRecDepth 100000
set_option linter.unusedSimpArgs false
theorem flatten_at {α : Type} {c : Nat} (css : List (List α)) (hc : ∀ l ∈ css, l.length = c) : ∀ (j : Nat) (x : α), css.flatten[j]? = some x → ∃ i r, j = i * c + r ∧ r < c ∧ i < css.length ∧ (css.getD i [])[r]? = some x := by
  induction css with
  | nil => intro j x h; simp at h
  | cons l css ih =>
    intro j x h
    have hl : l.length = c := hc l (by simp)
    rw [List.flatten_cons] at h
    by_cases hj : j < c
    · rw [List.getElem?_append_left (by omega)] at h
      exact ⟨0, j, by omega, hj, by simp, by simpa [List.getD] using h⟩
    · rw [List.getElem?_append_right (by omega), hl] at h
      obtain ⟨i, r, e1, e2, e3, e4⟩ := ih (fun l hl => hc l (by simp [hl])) _ _ h
      refine ⟨i + 1, r, ?_, e2, by simpa using e3, by simpa [List.getD] using e4⟩
      rw [Nat.add_mul]; omega

section
variable {H : Type} {enc : TypeId × Value → H} {P : Program} {w : World} {base : Nat} {spare : Nat → Bool} {held : Bool}
set_option maxRecDepth 100000 in
theorem open_row {t e : TypeId} {c fuel : Nat} {cs : List Value} {x : DataW H × List MemPlace} (ht : P.underlying t = some (.slice e)) (hc : P.cellsOf e = c) (hc0 : 0 < c) (h : DataW.trod enc P w base spare held fuel t cs = some x) :
    ∃ (a : Option Addr) (cap n : Nat) (css : List (List Value)), cs = [.slice a css.length cap] ∧ css.length ≤ 9223372036854775807 ∧ Lies w a css.flatten ∧ ∀ l ∈ css, l.length = c ∧ ∃ y, DataW.trod enc P w base spare held n e l = some y := by
  rcases open_slice ht h with ⟨rfl, _⟩ | ⟨a, len, cap, m, n, D, Pl, rfl, hb, hl, hm, hmm, rfl, hx⟩
  · exact ⟨none, 0, 0, [], rfl, by simp, Or.inl rfl, by simp⟩
  have hlm : len ≤ m := by rw [hmm]; split <;> omega
  rw [hc] at hx
  obtain ⟨f, hf⟩ := choose_lt (α := List Value) (p := fun i l => w.cells? base (a.add (i * c)) c = some l ∧ DataW.trod enc P w base spare held n e l = some (D i, Pl i)) (fun i hi => hx i (Nat.lt_of_lt_of_le hi hlm))
  have hlen : ∀ i, i < len → (f i).length = c := fun i hi => (World.cells?_some (hf i hi).1).2.1
  have hall : ∀ l ∈ (List.range len).map f, l.length = c := by
    intro l hl
    obtain ⟨i, hi, rfl⟩ := List.mem_map.1 hl
    exact hlen i (List.mem_range.1 hi)
  refine ⟨some a, cap, n, (List.range len).map f, by simp, ?_, ?_, ?_⟩
  · unfold maxLen at hm; simp; omega
  · by_cases h0 : len = 0
    · subst h0; exact Or.inl rfl
    · right
      have h00 := (World.cells?_some (hf 0 (by omega)).1).2.2 0 hc0
      obtain ⟨v, hv⟩ : ∃ v, (f 0)[0]? = some v := ⟨_, List.getElem?_eq_getElem (by rw [hlen 0 (by omega)]; exact hc0)⟩
      rw [hv, add_add] at h00
      obtain ⟨b, off, spot⟩ := a
      have hspot : spot = none := by simpa [Addr.add] using World.cell?_spot h00
      subst hspot
      refine ⟨b, off, rfl, by simpa [Addr.add_lit] using World.block_lt_of_cell? w _ h00, ?_⟩
      intro j x hj
      obtain ⟨i, r, rfl, hr, hi, hxr⟩ := flatten_at _ hall j x hj
      have hi' : i < len := by simpa using hi
      have hxr' : (f i)[r]? = some x := by simpa [List.getD, hi'] using hxr
      have := (World.cells?_some (hf i hi').1).2.2 r hr
      rw [add_add, Addr.add_lit, hxr'] at this
      exact this
  · intro l hl
    obtain ⟨i, hi, rfl⟩ := List.mem_map.1 hl
    exact ⟨hlen i (List.mem_range.1 hi), _, (hf i (List.mem_range.1 hi)).2⟩

end
theorem list_pre {α β : Type} {p : β → α → Prop} {q : α → Prop} (f : β → α) (l : List α) (h : ∀ x ∈ l, ∃ b, x = f b) : ∃ bs : List β, l = bs.map f := by
  induction l with
  | nil => exact ⟨[], rfl⟩
  | cons x l ih =>
    obtain ⟨bs, rfl⟩ := ih (fun x hx => h x (by simp [hx]))
    obtain ⟨b, rfl⟩ := h x (by simp)
    exact ⟨b :: bs, rfl⟩

section
variable {H : Type} {enc : TypeId × Value → H} {w : World} {base : Nat} {spare : Nat → Bool} {held : Bool}
set_option maxRecDepth 100000 in
theorem open_act {fuel : Nat} {cs : List Value} {x : DataW H × List MemPlace} (h : DataW.trod enc Tryz.prog w base spare held fuel 202 cs = some x) : ∃ z : ActD, cs = z.cells := by
  obtain ⟨y0, y1, y2, n, _, hl, h0, h1, h2⟩ := trod_struct3 Tryz.underlying202 h
  rw [show Tryz.prog.cellsOf 202 = 3 by kernel_rfl] at hl
  have e : Tryz.prog.cellsOf 2 = 1 := by kernel_rfl
  match cs, hl with
  | [c0, c1, c2], _ =>
    simp only [e, List.drop_zero, List.drop_succ_cons, List.take_succ_cons, List.take_zero] at h0 h1 h2
    obtain ⟨k, e0, _⟩ := DataW.trod_int Tryz.underlying2 h0
    obtain ⟨y, e1, _⟩ := DataW.trod_int Tryz.underlying2 h1
    obtain ⟨v, e2, _⟩ := DataW.trod_int Tryz.underlying2 h2
    simp only [List.cons.injEq, and_true] at e0 e1 e2
    exact ⟨⟨k, y, v⟩, by rw [e0, e1, e2]; rfl⟩

set_option maxRecDepth 100000 in
theorem open_acts {fuel : Nat} {cs : List Value} {x : DataW H × List MemPlace} (h : DataW.trod enc Tryz.prog w base spare held fuel 175 cs = some x) :
    ∃ (a : Option Addr) (cap : Nat) (zs : List ActD), cs = [.slice a zs.length cap] ∧ zs.length ≤ 9223372036854775807 ∧ ActRow w a zs := by
  obtain ⟨a, cap, n, css, rfl, hl, hL, hc⟩ := open_row Tryz.underlying175 (show Tryz.prog.cellsOf 202 = 3 by kernel_rfl) (by omega) h
  obtain ⟨zs, rfl⟩ := list_pre (p := fun _ _ => True) (q := fun _ => True) ActD.cells css (fun l hl => by obtain ⟨_, y, hy⟩ := hc l hl; exact open_act hy)
  refine ⟨a, cap, zs, by simp, by simpa using hl, ?_⟩
  rw [← List.flatMap_def] at hL
  exact hL

set_option maxRecDepth 100000 in
theorem open_txnCells {fuel : Nat} {cs : List Value} {x : DataW H × List MemPlace} (h : DataW.trod enc Tryz.prog w base spare held fuel 177 cs = some x) :
    ∃ (i s q : Int) (a : Option Addr) (cap : Nat) (zs : List ActD), cs = [.int .i64 i, .int .i64 s, .int .i64 q, .slice a zs.length cap] ∧ zs.length ≤ 9223372036854775807 ∧ ActRow w a zs := by
  obtain ⟨y0, y1, y2, y3, n, _, hl, h0, h1, h2, h3⟩ := Go.Joins.trod_struct4 Tryz.underlying177 h
  rw [show Tryz.prog.cellsOf 177 = 4 by kernel_rfl] at hl
  have e : Tryz.prog.cellsOf 2 = 1 := by kernel_rfl
  have e' : Tryz.prog.cellsOf 175 = 1 := by kernel_rfl
  match cs, hl with
  | [c0, c1, c2, c3], _ =>
    simp only [e, e', List.drop_zero, List.drop_succ_cons, List.take_succ_cons, List.take_zero] at h0 h1 h2 h3
    obtain ⟨k, e0, _⟩ := DataW.trod_int Tryz.underlying2 h0
    obtain ⟨y, e1, _⟩ := DataW.trod_int Tryz.underlying2 h1
    obtain ⟨v, e2, _⟩ := DataW.trod_int Tryz.underlying2 h2
    obtain ⟨a, cap, zs, e3, hz, hA⟩ := open_acts h3
    simp only [List.cons.injEq, and_true] at e0 e1 e2 e3
    exact ⟨k, y, v, a, cap, zs, by rw [e0, e1, e2, e3], hz, hA⟩

end
end Go.Proofs.YtdcjefgafckmgaaGreatDoor
namespace Go.Proofs.YtdcjefgafckmgaaGreatDoor
open Go.RowKit Go.Deep Go.ChangeShapes Go.WideShapes
set_option linter.unusedVariables false
set_option maxRecDepth 100000
set_option linter.unusedSimpArgs false
section
variable {H : Type} {enc : TypeId × Value → H} {w : World} {base : Nat} {spare : Nat → Bool} {held : Bool}
theorem list_pre2 {α β : Type} (f : β → α) (q : β → Prop) (l : List α) (h : ∀ x ∈ l, ∃ b, x = f b ∧ q b) : ∃ bs : List β, l = bs.map f ∧ ∀ b ∈ bs, q b := by
  induction l with
  | nil => exact ⟨[], rfl, by simp⟩
  | cons x l ih =>
    obtain ⟨bs, rfl, hq⟩ := ih (fun x hx => h x (by simp [hx]))
    obtain ⟨b, rfl, hb⟩ := h x (by simp)
    exact ⟨b :: bs, rfl, by intro c hc; rcases List.mem_cons.1 hc with rfl | hc; exact hb; exact hq c hc⟩

end
end Go.Proofs.YtdcjefgafckmgaaGreatDoor
namespace Go.Proofs.YtdcjefgafckmgaaGreatDoor
open Go.RowKit Go.Deep Go.ChangeShapes Go.WideShapes
set_option linter.unusedVariables false
set_option maxRecDepth 100000
set_option linter.unusedSimpArgs false
section
variable {H : Type} {enc : TypeId × Value → H} {w : World} {base : Nat} {spare : Nat → Bool} {held : Bool}
/-- A slice of whatever elements that are opened one by one. -/
theorem open_kind {P : Type} (K : Kind P) (q : P → Prop) {t e : TypeId} {fuel : Nat} {cs : List Value} {x : DataW H × List MemPlace} (ht : Tryz.prog.underlying t = some (.slice e)) (hc : Tryz.prog.cellsOf e = K.size) (hc0 : 0 < K.size)
    (hel : ∀ (n : Nat) (l : List Value) y, DataW.trod enc Tryz.prog w base spare held n e l = some y → ∃ p : P, l = K.cells p ∧ K.rd w p ∧ q p) (h : DataW.trod enc Tryz.prog w base spare held fuel t cs = some x) :
    ∃ (v : Value) (ps : List P), cs = [v] ∧ K.At w v ps ∧ ps.length ≤ 9223372036854775807 ∧ ∀ p ∈ ps, q p := by
  obtain ⟨a, cap, n, css, rfl, hl, hL, hcs⟩ := open_row ht hc hc0 h
  obtain ⟨ps, rfl, hq⟩ := list_pre2 K.cells (fun p => K.rd w p ∧ q p) css (fun l hl => by
    obtain ⟨_, y, hy⟩ := hcs l hl
    obtain ⟨p, h1, h2, h3⟩ := hel n l y hy
    exact ⟨p, h1, h2, h3⟩)
  rw [← List.flatMap_def] at hL
  refine ⟨.slice a (ps.map K.cells).length cap, ps, rfl, ⟨a, cap, by rw [List.length_map], hL, fun p hp => (hq p hp).1⟩, by simpa using hl, fun p hp => (hq p hp).2⟩

theorem open_i64 (n : Nat) (l : List Value) (y : DataW H × List MemPlace) (h : DataW.trod enc Tryz.prog w base spare held n 2 l = some y) : ∃ p : Int, l = intK.cells p ∧ intK.rd w p ∧ True := by
  obtain ⟨k, e, _⟩ := DataW.trod_int Tryz.underlying2 h
  exact ⟨k, e, trivial, trivial⟩

theorem open_intsK {fuel : Nat} {cs : List Value} {x : DataW H × List MemPlace} (h : DataW.trod enc Tryz.prog w base spare held fuel 47 cs = some x) :
    ∃ (v : Value) (zs : List Int), cs = [v] ∧ intK.At w v zs ∧ zs.length ≤ 9223372036854775807 := by
  obtain ⟨v, ps, h1, h2, h3, _⟩ := open_kind intK (fun _ => True) Tryz.underlying47 (by kernel_rfl) (by decide) open_i64 h
  exact ⟨v, ps, h1, h2, h3⟩

theorem open_txnK (n : Nat) (l : List Value) (y : DataW H × List MemPlace) (h : DataW.trod enc Tryz.prog w base spare held n 177 l = some y) : ∃ p : TxnQ, l = txnK.cells p ∧ txnK.rd w p ∧ TxnQ.wf p := by
  obtain ⟨i, s, q, a, cap, zs, e, hz, hA⟩ := open_txnCells h
  exact ⟨⟨i, s, q, .slice a zs.length cap, zs⟩, e, actK_mk hA, hz⟩

theorem open_txnsK {fuel : Nat} {cs : List Value} {x : DataW H × List MemPlace} (h : DataW.trod enc Tryz.prog w base spare held fuel 92 cs = some x) :
    ∃ (v : Value) (ps : List TxnQ), cs = [v] ∧ txnK.At w v ps ∧ ps.length ≤ 9223372036854775807 ∧ ∀ p ∈ ps, TxnQ.wf p :=
  open_kind txnK TxnQ.wf Tryz.underlying92 (by kernel_rfl) (by decide) open_txnK h

theorem open_roundK (n : Nat) (l : List Value) (y : DataW H × List MemPlace) (h : DataW.trod enc Tryz.prog w base spare held n 179 l = some y) : ∃ p : RoundQ, l = roundK.cells p ∧ roundK.rd w p ∧ RoundQ.wf p := by
  obtain ⟨y0, y1, n, _, hl, h0, h1⟩ := trod_struct2 Tryz.underlying179 h
  rw [show Tryz.prog.cellsOf 179 = 2 by kernel_rfl] at hl
  have e : Tryz.prog.cellsOf 47 = 1 := by kernel_rfl
  match l, hl with
  | [c0, c1], _ =>
    simp only [e, List.drop_zero, List.drop_succ_cons, List.take_succ_cons, List.take_zero] at h0 h1
    obtain ⟨v0, z0, e0, a0, l0⟩ := open_intsK h0
    obtain ⟨v1, z1, e1, a1, l1⟩ := open_intsK h1
    simp only [List.cons.injEq, and_true] at e0 e1
    exact ⟨⟨v0, z0, v1, z1⟩, by rw [e0, e1]; rfl, ⟨a0, a1⟩, ⟨l0, l1⟩⟩

theorem open_roundsK {fuel : Nat} {cs : List Value} {x : DataW H × List MemPlace} (h : DataW.trod enc Tryz.prog w base spare held fuel 93 cs = some x) :
    ∃ (v : Value) (ps : List RoundQ), cs = [v] ∧ roundK.At w v ps ∧ ps.length ≤ 9223372036854775807 ∧ ∀ p ∈ ps, RoundQ.wf p :=
  open_kind roundK RoundQ.wf Tryz.underlying93 (by kernel_rfl) (by decide) open_roundK h

theorem open_instCells {fuel : Nat} {cs : List Value} {x : DataW H × List MemPlace} (h : DataW.trod enc Tryz.prog w base spare held fuel 95 cs = some x) :
    ∃ p : InstQ, cs = [.bool p.has, p.vb, p.vr, p.vd] ∧ instK.rd w p ∧ p.wf := by
  obtain ⟨y0, y1, y2, y3, n, _, hl, h0, h1, h2, h3⟩ := Go.Joins.trod_struct4 Tryz.underlying95 h
  rw [show Tryz.prog.cellsOf 95 = 4 by kernel_rfl] at hl
  have e : Tryz.prog.cellsOf 4 = 1 := by kernel_rfl
  have e' : Tryz.prog.cellsOf 92 = 1 := by kernel_rfl
  have e2 : Tryz.prog.cellsOf 93 = 1 := by kernel_rfl
  have e3 : Tryz.prog.cellsOf 47 = 1 := by kernel_rfl
  match cs, hl with
  | [c0, c1, c2, c3], _ =>
    simp only [e, e', e2, e3, List.drop_zero, List.drop_succ_cons, List.take_succ_cons, List.take_zero] at h0 h1 h2 h3
    obtain ⟨k, e0, _⟩ := DataW.trod_bool Tryz.underlying4 h0
    obtain ⟨v1, z1, e1, a1, l1, w1⟩ := open_txnsK h1
    obtain ⟨v2, z2, e2, a2, l2, w2⟩ := open_roundsK h2
    obtain ⟨v3, z3, e3, a3, l3⟩ := open_intsK h3
    simp only [List.cons.injEq, and_true] at e0 e1 e2 e3
    exact ⟨⟨k, v1, z1, v2, z2, v3, z3⟩, by rw [e0, e1, e2, e3], ⟨a1, a2, a3⟩, ⟨⟨l1, w1⟩, ⟨l2, w2⟩, l3⟩⟩

end
end Go.Proofs.YtdcjefgafckmgaaGreatDoor
namespace Go.Proofs.YtdcjefgafckmgaaGreatDoor
open Go.RowKit Go.ChangeShapes Go.WideShapes
set_option linter.unusedVariables false
set_option maxRecDepth 100000
set_option linter.unusedSimpArgs false
theorem gRul : Tryz.prog.globalNamed "loop.example/g00631/impl.rules" = some 1 := by kernel_rfl

theorem tRul : (Tryz.prog.globals[1]?).map (·.type) = some 230 := by kernel_rfl

theorem cRule : Tryz.prog.cellsOf 221 = 7 := by kernel_rfl

theorem cCh : Tryz.prog.cellsOf 70 = 4 := by kernel_rfl

theorem cI : Tryz.prog.cellsOf 2 = 1 := by kernel_rfl

theorem cB : Tryz.prog.cellsOf 4 = 1 := by kernel_rfl

section
variable {H : Type} {enc : TypeId × Value → H} {w : World} {base : Nat} {spare : Nat → Bool} {held : Bool}
theorem choice_cells {fuel : Nat} {cs : List Value} {c v : Int} {d k : Bool} {q : List MemPlace} (h : DataW.trod enc Tryz.prog w base spare held fuel 70 cs = some (.agg [.lit (.int .i64 c), .lit (.bool d), .lit (.bool k), .lit (.int .i64 v)], q)) : cs = [.int .i64 c, .bool d, .bool k, .int .i64 v] := by
  obtain ⟨y0, y1, y2, y3, n, hx, hl, h0, h1, h2, h3⟩ := Go.Joins.trod_struct4 Tryz.underlying70 h
  rw [cCh] at hl
  simp only [Prod.mk.injEq, DataW.agg.injEq, List.cons.injEq, and_true] at hx
  obtain ⟨⟨x0, x1, x2, x3⟩, _⟩ := hx
  match cs, hl with
  | [c0, c1, c2, c3], _ =>
    simp only [cI, cB, List.drop_zero, List.drop_succ_cons, List.take_succ_cons, List.take_zero] at h0 h1 h2 h3
    obtain ⟨n0, e0, g0, _⟩ := DataW.trod_int Tryz.underlying2 h0
    obtain ⟨n1, e1, g1⟩ := DataW.trod_bool Tryz.underlying4 h1
    obtain ⟨n2, e2, g2⟩ := DataW.trod_bool Tryz.underlying4 h2
    obtain ⟨n3, e3, g3, _⟩ := DataW.trod_int Tryz.underlying2 h3
    simp only [List.cons.injEq, and_true] at e0 e1 e2 e3
    rw [g0] at x0
    rw [g1] at x1
    rw [g2] at x2
    rw [g3] at x3
    simp at x0 x1 x2 x3
    rw [e0, e1, e2, e3, x0, x1, x2, x3]

theorem rule_cells {fuel : Nat} {cs : List Value} {z o p c v : Int} {d k : Bool} {q : List MemPlace} (h : DataW.trod enc Tryz.prog w base spare held fuel 221 cs = some (.agg [.lit (.int .i64 z), .lit (.int .i64 o), .lit (.int .i64 p), .agg [.lit (.int .i64 c), .lit (.bool d), .lit (.bool k), .lit (.int .i64 v)]], q)) :
    cs = [.int .i64 z, .int .i64 o, .int .i64 p, .int .i64 c, .bool d, .bool k, .int .i64 v] := by
  obtain ⟨y0, y1, y2, y3, n, hx, hl, h0, h1, h2, h3⟩ := Go.Joins.trod_struct4 Tryz.underlying221 h
  rw [cRule] at hl
  simp only [Prod.mk.injEq, DataW.agg.injEq, List.cons.injEq, and_true] at hx
  obtain ⟨⟨x0, x1, x2, x3⟩, _⟩ := hx
  match cs, hl with
  | [c0, c1, c2, c3, c4, c5, c6], _ =>
    simp only [cI, cCh, List.drop_zero, List.drop_succ_cons, List.take_succ_cons, List.take_zero] at h0 h1 h2 h3
    obtain ⟨n0, e0, g0, _⟩ := DataW.trod_int Tryz.underlying2 h0
    obtain ⟨n1, e1, g1, _⟩ := DataW.trod_int Tryz.underlying2 h1
    obtain ⟨n2, e2, g2, _⟩ := DataW.trod_int Tryz.underlying2 h2
    obtain ⟨y30, y31⟩ := y3
    dsimp only at x3
    rw [← x3] at h3
    have e3 := choice_cells h3
    simp only [List.cons.injEq, and_true] at e0 e1 e2 e3
    rw [g0] at x0
    rw [g1] at x1
    rw [g2] at x2
    simp at x0 x1 x2
    obtain ⟨e3, e4, e5, e6⟩ := e3
    rw [e0, e1, e2, e3, e4, e5, e6, x0, x1, x2]

end
theorem rul_of_laid {W : World} (h : laidMetH Tryz.prog [("loop.example/g00631/impl.rules", Rows.laid_loop_example_g00631_impl_rules)] W) : Rul W := by
  rw [MakeChecks.laidMetH_plain _ _ _ (by kernel_rfl)] at h
  obtain ⟨g, t, cs, fuel, p, hg, ht, hvar, hd⟩ := Lib.laidMet.reads h (List.mem_singleton.2 rfl)
  obtain rfl := Option.some.inj (gRul.symm.trans hg)
  obtain rfl := Option.some.inj (tRul.symm.trans ht)
  unfold Rows.laid_loop_example_g00631_impl_rules at hd
  have e : ∀ i, i < 5 → ∃ fuel' d q, _ ∧ _ := fun i hi => Lib.array_elem Tryz.underlying230 hd i hi
  rw [cRule] at e
  obtain ⟨f0, d0, q0, r0, s0⟩ := e 0 (by omega)
  obtain ⟨f1, d1, q1, r1, s1⟩ := e 1 (by omega)
  obtain ⟨f2, d2, q2, r2, s2⟩ := e 2 (by omega)
  obtain ⟨f3, d3, q3, r3, s3⟩ := e 3 (by omega)
  obtain ⟨f4, d4, q4, r4, s4⟩ := e 4 (by omega)
  simp only [List.getElem?_cons_zero, List.getElem?_cons_succ, Option.some.injEq] at r0 r1 r2 r3 r4
  subst r0 r1 r2 r3 r4
  have t0 := rule_cells s0
  have t1 := rule_cells s1
  have t2 := rule_cells s2
  have t3 := rule_cells s3
  have t4 := rule_cells s4
  have hall : cs.toList.take 35 = rulL := by
    rw [show 35 = 0 * 7 + 7 + 7 + 7 + 7 + 7 from rfl, List.take_add, List.take_add, List.take_add, List.take_add]
    rw [show 0 * 7 + 7 + 7 + 7 + 7 = 4 * 7 from rfl, show 0 * 7 + 7 + 7 + 7 = 3 * 7 from rfl, show 0 * 7 + 7 + 7 = 2 * 7 from rfl, show 0 * 7 + 7 = 1 * 7 from rfl, t1, t2, t3, t4]
    have t0' : List.take (1 * 7) cs.toList = _ := t0
    rw [t0']
    rfl
  intro i v hv
  have hi : i < 35 := by
    have := (List.getElem?_eq_some_iff.1 hv).1
    simpa [rulL] using this
  rw [World.var?_cell hg hvar i, ← Array.getElem?_toList]
  rw [← hall, List.getElem?_take, if_pos hi] at hv
  exact hv

end Go.Proofs.YtdcjefgafckmgaaGreatDoor
namespace Go.Proofs.YtdcjefgafckmgaaGreatDoor
open Go.RowKit Go.Deep Go.ChangeShapes Go.WideShapes
set_option linter.unusedVariables false
set_option maxRecDepth 100000
set_option linter.unusedSimpArgs false
section
variable {H : Type} {enc : TypeId × Value → H} {w : World} {base : Nat} {spare : Nat → Bool} {held : Bool}
theorem open_instK (n : Nat) (l : List Value) (y : DataW H × List MemPlace) (h : DataW.trod enc Tryz.prog w base spare held n 95 l = some y) : ∃ p : InstQ, l = instK.cells p ∧ instK.rd w p ∧ InstQ.wf p := by
  obtain ⟨p, e, h1, h2⟩ := open_instCells h
  exact ⟨p, e, h1, h2⟩

theorem open_instsV {r : Reach} {b0 : Nat} {v : Value} {d : DataW H} {p : List MemPlace} (hv : Value.okWide Tryz.prog w r b0 54 v) (h : DataW.Trod enc Tryz.prog w base spare held 54 v d p) :
    ∃ ps : List InstQ, instK.At w v ps ∧ ps.length ≤ 9223372036854775807 ∧ ∀ p ∈ ps, InstQ.wf p := by
  obtain ⟨a0, len0, cap0, rfl⟩ := okWide_slice Tryz.underlying54 hv
  obtain ⟨fuel, hf⟩ := h
  obtain ⟨v, ps, e, h1, h2, h3⟩ := open_kind instK InstQ.wf Tryz.underlying54 (by kernel_rfl) (by decide) open_instK hf
  simp [Value.cells] at e
  rw [← e] at h1
  exact ⟨ps, h1, h2, h3⟩

end
end Go.Proofs.YtdcjefgafckmgaaGreatDoor

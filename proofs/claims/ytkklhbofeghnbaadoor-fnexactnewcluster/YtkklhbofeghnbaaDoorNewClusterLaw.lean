/- The law FnExactNewCluster, walked: it answers true, and it writes into nothing that was there. -/
import Derived.Test.YtkklhbofeghnbaaDoorNc12
namespace Go.Proofs.YtkklhbofeghnbaaDoor
open Go.RowKit
open Go.BigFrame
set_option linter.unusedVariables false
set_option linter.unusedSimpArgs false
set_option maxRecDepth 100000

theorem Blk.outs {w w' : World} {b : Nat} {t : TypeId} {cs : Array Value} {F : List Nat} (h : Blk w b t cs) (hU : Out F w w') (hF : b ∉ F) : Blk w' b t cs := (hU.block b h.lt hF).trans h
theorem rep_n12 {p q : RepQ} (h : p.e = q.e) : p.n = q.n := by
  have e1 : ∀ l : List USQ, nmL USQ.n l = nmL List.length (l.map USQ.e) := fun l => by simp only [nmL, List.map_map]; rfl
  have e2 : ∀ l : List TxnQ, nmL TxnQ.n l = nmL TxnD.n (l.map TxnQ.e) := fun l => by simp only [nmL, List.map_map]; rfl
  simp only [RepQ.e, RepE.mk.injEq] at h
  obtain ⟨h0, h1, h2, h3, h4⟩ := h
  have l0 := congrArg List.length h0
  have l2 := congrArg List.length h2
  have l3 := congrArg List.length h3
  simp only [List.length_map] at l0 l2 l3
  simp only [RepQ.n, e1, e2, h0, h1, h2, h3, h4, l0, l2, l3]
theorem node_n12 {p q : NodeQ} (h : p.e = q.e) : p.n = q.n := rep_n12 (congrArg NodeE.rep h)
theorem nm_map12 {α β : Type} (e : α → β) (n : α → Nat) (hn : ∀ a b, e a = e b → n a = n b) (ps qs : List α) (h : ps.map e = qs.map e) : ps.length + nmL n ps = qs.length + nmL n qs := by
  induction ps generalizing qs with
  | nil =>
    cases qs with
    | nil => rfl
    | cons p r => simp at h
  | cons q s ih =>
    cases qs with
    | nil => simp at h
    | cons p r =>
      simp only [List.map_cons, List.cons.injEq] at h
      have h1 := ih r h.2
      have h2 := hn q p h.1
      simp only [nmL, List.map_cons, List.sum_cons, List.length_cons] at h1 ⊢
      omega
theorem clu_n {p q : CluQ} (h : p.e = q.e) : p.n = q.n := by
  simp only [CluQ.e, CluE.mk.injEq] at h
  have a := nm_map12 InstQ.e InstQ.n (fun _ _ => inst_n) _ _ h.1
  have b := nm_map12 NodeQ.e NodeQ.n (fun _ _ => node_n12) _ _ h.2
  simp only [CluQ.n]
  omega
theorem newC_n {q : CluQ} (h : q.e = newC) : q.n ≤ 1048576 := by
  have := clu_n (q := q) (p := ⟨.slice none 0 0, [⟨false, .slice none 0 0, [], .slice none 0 0, [⟨.slice none 0 0, [3, 3, 3], .slice none 0 0, [3, 3, 3]⟩], .slice none 0 0, [3, 3, 3]⟩], .slice none 0 0, List.replicate 3 ⟨0, 0, .slice none 0 0, [], .slice none 0 0, [], .slice none 0 0, [], .slice none 0 0, [], .slice none 0 0, []⟩⟩) (h.symm ▸ rfl)
  rw [← this]
  decide

set_option maxHeartbeats 8000000 in
theorem newClusterLaw (w : World) (hG : Opn w) :
    Calls Tryd.prog 3 #[] w fun e w' => e = .returned (.bool true) ∧ Below w.heap.size w w' := by
  have hqs : Hid (∀ q : CluQ, q.e = newC → q.n ≤ 1048576) := fun q hq => newC_n hq
  have b0 : Below w.heap.size w w := Below.refl _ _
  go_enter Tryd.func3, Tryd.ntmps3
  go_wp2_with fail
  refine (specNewCluster_any w).mono ?_
  rintro e w5 ⟨qs, rfl, es, os, ns, gs, hb⟩
  have us : ∀ k ∈ cluK.foot qs, w.heap.size ≤ k ∧ k < w5.heap.size := fun k hk => ⟨gs k hk, cluK.own_lt os k hk⟩
  replace b0 := b0.trans (hb.mono b0.size)
  clear hb
  clear ns gs
  have hls : CluQ.n qs ≤ 1048576 := hqs.out qs es
  obtain ⟨vbs, ords, vrs, mems⟩ := qs
  obtain ⟨bas, bks, rfl⟩ : ∃ a c, vbs = .slice a ords.length c := os.1.shape
  obtain ⟨vas, vks, rfl⟩ : ∃ a c, vrs = .slice a mems.length c := os.2.shape
  have hw5 := b0.size
  have S0 := Blk.new w5 27 #[.int .i64 0, .int .i64 0, .slice bas ords.length bks, .slice vas mems.length vks]
  have hb : Below w5.heap.size w5 (w5.alloc (.cells #[.int .i64 0, .int .i64 0, .slice bas ords.length bks, .slice vas mems.length vks] 27)) := by go_grown
  replace os := cluK.own_out (F := []) os (Out.of_below hb) (fun _ _ => by simp)
  replace b0 := b0.trans (hb.mono b0.size)
  clear hb
  go_wp2_with fail
  generalize w5.alloc (.cells #[.int .i64 0, .int .i64 0, .slice bas ords.length bks, .slice vas mems.length vks] 27) = W5 at *
  refine (implNewCluster_any W5 (hG.below b0)).mono ?_
  rintro e w8 ⟨qi, rfl, ei, oi, ni, gi, hb⟩
  have h78 := hb.size
  have hS5 := S0.lt
  have ui : ∀ k ∈ cluK.foot qi, w5.heap.size < k ∧ k < w8.heap.size := fun k hk => ⟨by have := gi k hk; omega, cluK.own_lt oi k hk⟩
  replace S0 := S0.below hb
  replace os := cluK.own_out (F := []) os (Out.of_below hb) (fun _ _ => by simp)
  replace b0 := b0.trans (hb.mono b0.size)
  clear hb
  clear gi
  have hS8 := S0.lt
  have hli : CluQ.n qi ≤ 1048576 := hqs.out qi ei
  obtain ⟨vbi, ordi, vri, memi⟩ := qi
  obtain ⟨bai, bki, rfl⟩ : ∃ a c, vbi = .slice a ordi.length c := oi.1.shape
  obtain ⟨vai, vki, rfl⟩ : ∃ a c, vri = .slice a memi.length c := oi.2.shape
  have Y0 := Blk.new w8 27 #[.int .i64 0, .int .i64 0, .slice bai ordi.length bki, .slice vai memi.length vki]
  have hb : Below w8.heap.size w8 (w8.alloc (.cells #[.int .i64 0, .int .i64 0, .slice bai ordi.length bki, .slice vai memi.length vki] 27)) := by go_grown
  replace S0 := S0.below hb
  replace os := cluK.own_out (F := []) os (Out.of_below hb) (fun _ _ => by simp)
  replace oi := cluK.own_out (F := []) oi (Out.of_below hb) (fun _ _ => by simp)
  replace b0 := b0.trans (hb.mono b0.size)
  clear hb
  obtain ⟨r0, r1, r2, r3⟩ := S0.cel4
  go_wp2_with fail
  clear r0 r1 r2 r3
  generalize w8.alloc (.cells #[.int .i64 0, .int .i64 0, .slice bai ordi.length bki, .slice vai memi.length vki] 27) = W8 at *
  refine (eqCR_k 0 0 (⟨.slice bai ordi.length bki, ordi, .slice vai memi.length vki, memi⟩ : CluQ) (⟨.slice bas ords.length bks, ords, .slice vas mems.length vks, mems⟩ : CluQ) _ (cluK.own_rd oi) (cluK.own_rd os) (ei.trans es.symm) hli).mono ?_
  rintro e w15 ⟨rfl, hb⟩
  replace S0 := S0.below hb
  replace Y0 := Y0.below hb
  replace os := cluK.own_out (F := []) os (Out.of_below hb) (fun _ _ => by simp)
  replace oi := cluK.own_out (F := []) oi (Out.of_below hb) (fun _ _ => by simp)
  replace b0 := b0.trans (hb.mono b0.size)
  clear hb
  obtain ⟨p0, p1, p2, p3⟩ := Y0.cel4
  go_wp2_with fail
  clear p0 p1 p2 p3
  have hmi := nmClu_le (⟨.slice bai ordi.length bki, ordi, .slice vai memi.length vki, memi⟩ : CluQ)
  refine (markCR_k 0 0 (⟨.slice bai ordi.length bki, ordi, .slice vai memi.length vki, memi⟩ : CluQ) 1 w15 oi ni hli (by omega) (by omega)).mono ?_
  rintro e w16 ⟨rfl, om, hU⟩
  have hNU : ∀ k, k ∈ cluK.foot (⟨.slice bai ordi.length bki, ordi, .slice vai memi.length vki, memi⟩ : CluQ) → w5.heap.size < k ∧ k < w8.heap.size := ui
  replace S0 := S0.outs hU (fun hk => by have := hNU _ hk; omega)
  replace Y0 := Y0.outs hU (fun hk => by have := hNU _ hk; omega)
  replace os := cluK.own_out os hU (fun k hk hk' => by have := hNU _ hk'; have := us k hk; omega)
  replace b0 := Out.keep b0 hU b0.size (fun k hk => by have := hNU _ hk; omega)
  clear hNU hU
  clear oi
  have rm := cluK.own_rd om
  clear om
  have hmm : Hid (∀ w', Below w16.heap.size w16 w' → cluK.rd w' (mkClu 1 (⟨.slice bai ordi.length bki, ordi, .slice vai memi.length vki, memi⟩ : CluQ))) := fun w' hb => cluK.rd_below rm hb
  have hbq : Below w16.heap.size w16 w16 := Below.refl _ _
  have hhe := fun w h => heldCR_k 0 0 (⟨.slice bai ordi.length bki, ordi, .slice vai memi.length vki, memi⟩ : CluQ) 1 w h hli (by omega) (by omega)
  generalize hMi : (nmClu (⟨.slice bai ordi.length bki, ordi, .slice vai memi.length vki, memi⟩ : CluQ) : Int) = Mi at *
  have hmi' : 0 ≤ Mi ∧ Mi ≤ 3145728 := by omega
  have hpi : ¬ (1 + Mi < 0) := by omega
  have hne : ((1 + Mi) != (1 + Mi)) = false := by simp
  clear hmi hMi rm
  obtain ⟨p0, p1, p2, p3⟩ := Y0.cel4
  go_wp2_with fail
  clear p0 p1 p2 p3
  refine (hhe w16 (hmm.out _ hbq)).mono ?_
  rintro e w17 ⟨rfl, hb⟩
  replace hbq := hbq.trans (hb.mono hbq.size)
  replace S0 := S0.below hb
  replace Y0 := Y0.below hb
  replace os := cluK.own_out (F := []) os (Out.of_below hb) (fun _ _ => by simp)
  replace b0 := b0.trans (hb.mono b0.size)
  clear hb
  go_wp2_with fail
  refine (implNewCluster_any w17 (hG.below b0)).mono ?_
  rintro e w20 ⟨qh, rfl, eh, oh, nh, gh, hb⟩
  replace hbq := hbq.trans (hb.mono hbq.size)
  replace S0 := S0.below hb
  replace Y0 := Y0.below hb
  replace os := cluK.own_out (F := []) os (Out.of_below hb) (fun _ _ => by simp)
  replace b0 := b0.trans (hb.mono b0.size)
  clear hb
  clear nh gh
  have hlh : CluQ.n qh ≤ 1048576 := hqs.out qh eh
  obtain ⟨vbh, ordh, vrh, memh⟩ := qh
  obtain ⟨bah, bkh, rfl⟩ : ∃ a c, vbh = .slice a ordh.length c := oh.1.shape
  obtain ⟨vah, vkh, rfl⟩ : ∃ a c, vrh = .slice a memh.length c := oh.2.shape
  have H0 := Blk.new w20 27 #[.int .i64 0, .int .i64 0, .slice bah ordh.length bkh, .slice vah memh.length vkh]
  have hb : Below w20.heap.size w20 (w20.alloc (.cells #[.int .i64 0, .int .i64 0, .slice bah ordh.length bkh, .slice vah memh.length vkh] 27)) := by go_grown
  replace hbq := hbq.trans (hb.mono hbq.size)
  replace S0 := S0.below hb
  replace Y0 := Y0.below hb
  replace os := cluK.own_out (F := []) os (Out.of_below hb) (fun _ _ => by simp)
  replace oh := cluK.own_out (F := []) oh (Out.of_below hb) (fun _ _ => by simp)
  replace b0 := b0.trans (hb.mono b0.size)
  clear hb
  obtain ⟨r0, r1, r2, r3⟩ := S0.cel4
  go_wp2_with fail
  clear r0 r1 r2 r3
  generalize w20.alloc (.cells #[.int .i64 0, .int .i64 0, .slice bah ordh.length bkh, .slice vah memh.length vkh] 27) = W20 at *
  refine (eqCR_k 0 0 (⟨.slice bah ordh.length bkh, ordh, .slice vah memh.length vkh, memh⟩ : CluQ) (⟨.slice bas ords.length bks, ords, .slice vas mems.length vks, mems⟩ : CluQ) _ (cluK.own_rd oh) (cluK.own_rd os) (eh.trans es.symm) hlh).mono ?_
  rintro e w21 ⟨rfl, hb⟩
  replace hbq := hbq.trans (hb.mono hbq.size)
  replace S0 := S0.below hb
  replace Y0 := Y0.below hb
  replace H0 := H0.below hb
  replace os := cluK.own_out (F := []) os (Out.of_below hb) (fun _ _ => by simp)
  replace oh := cluK.own_out (F := []) oh (Out.of_below hb) (fun _ _ => by simp)
  replace b0 := b0.trans (hb.mono b0.size)
  clear hb
  obtain ⟨p0, p1, p2, p3⟩ := Y0.cel4
  go_wp2_with fail
  clear p0 p1 p2 p3
  refine (hhe w21 (hmm.out _ hbq)).mono ?_
  rintro e w22 ⟨rfl, hb⟩
  replace b0 := b0.trans (hb.mono b0.size)
  clear hb hhe hmm hbq S0 Y0 H0 os oh
  go_wp2
  go_ret
  exact ⟨rfl, b0⟩

end Go.Proofs.YtkklhbofeghnbaaDoor

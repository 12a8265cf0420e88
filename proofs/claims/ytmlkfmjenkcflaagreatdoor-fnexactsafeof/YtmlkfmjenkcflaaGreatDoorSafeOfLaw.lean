/- The law FnExactSafeOf, walked: at every instance that can be read it answers true, and it writes into nothing that was there. -/
import Derived.Test.YtmlkfmjenkcflaaGreatDoorSafeOfI
import Derived.Test.YtmlkfmjenkcflaaGreatDoorGH
namespace Go.Proofs.YtmlkfmjenkcflaaGreatDoor
open Go.RowKit
open Go.BigFrame
set_option linter.unusedVariables false
set_option maxRecDepth 100000
set_option linter.unusedSimpArgs false

set_option maxHeartbeats 4000000 in
theorem safeOfLaw (p : InstQ) (w : World) (hG : Rul w) (h : instK.rd w p) (hn : p.wf) :
    Calls Tryz.prog 3 #[.agg #[.bool p.has, p.vb, p.vr, p.vd]] w fun e w' => e = .returned (.bool true) ∧ Below w.heap.size w w' := by
  have hsz := fun w h => szInstance_k p 1048576 w h hn (by omega) (by omega)
  have hto := fun w h hl => toInstance_k p w h hl
  have hsp := fun q (hq : InstQ.e q = p.e) w h hl => hq ▸ specSafeOf_any q w h hl
  have him := fun q (hq : InstQ.e q = p.e) w hG h hl => hq ▸ implSafeOf_any q w hG h hl
  have hqn : ∀ q : InstQ, q.e = p.e → q.n = p.n := fun q hq => inst_n hq
  have heq := fun (q q' : InstQ) (hq : q.e = p.e) (hq' : q'.e = p.e) w h h' hl => eqInstance_k q q' w h h' (hq.trans hq'.symm) hl
  have hrb := fun (w' : World) hb => instK.rd_below (w' := w') h hb
  generalize hpe : p.e = pe at *
  generalize hpn : p.n = pn at *
  generalize safE pe = E at hsp him
  obtain ⟨has, vb, batch, vr, rounds, vd, dec⟩ := p
  obtain ⟨ba, bk, rfl⟩ : ∃ a c, vb = .slice a batch.length c := h.1.shape
  obtain ⟨va, vk, rfl⟩ : ∃ a c, vr = .slice a rounds.length c := h.2.1.shape
  obtain ⟨da, dk, rfl⟩ : ∃ a c, vd = .slice a dec.length c := h.2.2.shape
  dsimp only at hsz hto hrb
  have b0 : Below w.heap.size w (w.alloc (.cells #[.bool has, .slice ba batch.length bk, .slice va rounds.length vk, .slice da dec.length dk] 26)) := by go_grown
  have A0 := Blk.new w 26 #[.bool has, .slice ba batch.length bk, .slice va rounds.length vk, .slice da dec.length dk]
  go_enter Tryz.func3, Tryz.ntmps3
  go_wp2_with fail
  generalize w.alloc (.cells #[.bool has, .slice ba batch.length bk, .slice va rounds.length vk, .slice da dec.length dk] 26) = W at *
  refine (hsz W (hrb W b0)).mono ?_
  rintro e w1 ⟨r, rfl, hr, hb⟩
  replace A0 := A0.below hb
  replace b0 := b0.trans (hb.mono b0.size)
  clear hsz hb
  by_cases hneg : r < 0
  · go_wp2
    go_ret
    exact ⟨rfl, b0⟩
  · have hl : pn ≤ 1048576 := by
      have := hr (by omega)
      omega
    clear hr
    obtain ⟨p0, p1, p2, p3⟩ := A0.cel4
    go_wp2_with fail
    clear p0 p1 p2 p3
    refine (hto w1 (hrb w1 b0) hl).mono ?_
    rintro e w2 ⟨q1, rfl, e1, o1, n1, g1, hb⟩
    replace A0 := A0.below hb
    replace b0 := b0.trans (hb.mono b0.size)
    clear hb n1 g1
    go_wp2_with fail
    refine (hsp q1 e1 w2 (instK.own_rd o1) (by rw [hqn q1 e1]; exact hl)).mono ?_
    rintro e w3 ⟨rfl, hb⟩
    replace A0 := A0.below hb
    replace b0 := b0.trans (hb.mono b0.size)
    clear hb o1 hsp e1
    obtain ⟨p0, p1, p2, p3⟩ := A0.cel4
    go_wp2_with fail
    clear p0 p1 p2 p3
    refine (hto w3 (hrb w3 b0) hl).mono ?_
    rintro e w4 ⟨q2, rfl, e2, o2, n2, g2, hb⟩
    replace A0 := A0.below hb
    replace b0 := b0.trans (hb.mono b0.size)
    clear hb n2 g2
    have hi2 := fun w hG h => him q2 e2 w hG h (by rw [hqn q2 e2]; exact hl)
    have he2 := fun q' hq' w h h' => heq q2 q' e2 hq' w h h' (by rw [hqn q2 e2]; exact hl)
    have r2 := instK.own_rd o2
    have rb2 := fun (w' : World) hb => instK.rd_below (w' := w') r2 hb
    obtain ⟨has2, vb2, batch2, vr2, rounds2, vd2, dec2⟩ := q2
    obtain ⟨ba2, bk2, rfl⟩ : ∃ a c, vb2 = .slice a batch2.length c := r2.1.shape
    obtain ⟨va2, vk2, rfl⟩ : ∃ a c, vr2 = .slice a rounds2.length c := r2.2.1.shape
    obtain ⟨da2, dk2, rfl⟩ : ∃ a c, vd2 = .slice a dec2.length c := r2.2.2.shape
    dsimp only at hi2 he2 rb2
    have X0 := Blk.new w4 32 #[.bool has2, .slice ba2 batch2.length bk2, .slice va2 rounds2.length vk2, .slice da2 dec2.length dk2]
    have bx : Below w4.heap.size w4 (w4.alloc (.cells #[.bool has2, .slice ba2 batch2.length bk2, .slice va2 rounds2.length vk2, .slice da2 dec2.length dk2] 32)) := by go_grown
    replace A0 := A0.below bx
    replace b0 := b0.trans (bx.mono b0.size)
    have r4 := rb2 _ bx
    clear o2 r2 rb2 bx
    have rb4 := fun (w' : World) hb => instK.rd_below (w' := w') r4 hb
    go_wp2_with fail
    generalize w4.alloc (.cells #[.bool has2, .slice ba2 batch2.length bk2, .slice va2 rounds2.length vk2, .slice da2 dec2.length dk2] 32) = W4 at *
    refine (hi2 W4 (hG.below b0) r4).mono ?_
    rintro e w5 ⟨rfl, hb⟩
    replace A0 := A0.below hb
    replace X0 := X0.below hb
    replace b0 := b0.trans (hb.mono b0.size)
    have r5 := rb4 _ hb
    clear hb hi2 rb4 r4 him
    have hne : (E != E) = false := by simp
    go_wp2_with fail
    have hW : Below w5.heap.size w5 w5.drew := (Below.refl _ _).drew
    have hnn : Nonempty (Lat w5) := ⟨⟨w5, Below.refl _ _⟩⟩
    have k0 := A0.lat 0 _ rfl
    have l0 := X0.lat 0 _ rfl
    have k1 := A0.lat 1 _ rfl
    have l1 := X0.lat 1 _ rfl
    have k2 := A0.lat 2 _ rfl
    have l2 := X0.lat 2 _ rfl
    have k3 := A0.lat 3 _ rfl
    have l3 := X0.lat 3 _ rfl
    refine text_begin (S := fun w' => ∃ u : Lat w5, w' = u.val) (by kernel_rfl) ?_
    refine sgr [(0, 2)] 3 (by kernel_rfl) ⟨⟨_, hW⟩, rfl⟩ ?_
    simp only [pkE]
    repeat go_big_quiet_step (fail)
    refine wpQuiet_nil ?_
    refine cla 2 (some 24) 6 #[.agg #[.bool has, .slice ba batch.length bk, .slice va rounds.length vk, .slice da dec.length dk]] 2 (by kernel_rfl) ?_
    refine (hto _ (hrb _ (b0.trans (hW.mono b0.size))) hl).mono ?_
    rintro e w7 ⟨q3, rfl, e3, o3, n3, g3, hb⟩
    replace hW := hW.trans (hb.mono hW.size)
    clear hb n3 g3
    refine ⟨_, rfl, ⟨⟨_, hW⟩, rfl⟩, ?_⟩
    simp only [Act.put, pjE]
    refine cla 3 (some 25) 8 #[.agg #[.bool has2, .slice ba2 batch2.length bk2, .slice va2 rounds2.length vk2, .slice da2 dec2.length dk2], .agg #[.bool q3.has, q3.vb, q3.vr, q3.vd]] 1 (by kernel_rfl) ?_
    refine (he2 q3 e3 _ (instK.rd_below r5 hW) (instK.own_rd o3)).mono ?_
    rintro e w8 ⟨rfl, hb⟩
    replace hW := hW.trans (hb.mono hW.size)
    clear hb
    refine ⟨_, rfl, ⟨⟨_, hW⟩, rfl⟩, ?_⟩
    simp only [Act.put, pjE]
    refine sgr [(4, 1)] 0 (by kernel_rfl) ⟨⟨_, hW⟩, rfl⟩ ?_
    simp only [pkE]
    repeat go_big_quiet_step (fail)
    refine wpQuiet_nil ?_
    refine text_end (by kernel_rfl) ?_
    replace b0 := b0.trans (hW.mono b0.size)
    clear k0 k1 k2 k3 l0 l1 l2 l3 hW hnn hto he2 hrb A0 X0 r5 o3
    go_wp2
    go_ret
    exact ⟨rfl, b0⟩

end Go.Proofs.YtmlkfmjenkcflaaGreatDoor

/- SameInstances of the model. No condition. -/
import Derived.Test.YtkkdjgiencilbaaSm6
import Derived.Test.YtkkdjgiencilbaaTxnSameT
namespace Go.Proofs.Ytkkdjgiencilbaa
open Go.RowKit
open Go.BigFrame
set_option linter.unusedVariables false
set_option linter.unusedSimpArgs false

/-- A pointer to an instance. -/
structure InstP' (w : World) (b o : Nat) (p : InstQ) : Prop where
  box : Box4 w b o (.bool p.has) p.vb p.vr p.vd
  rd : instK.rd w p
theorem InstP'.below {w w' : World} {b o : Nat} {p : InstQ} (h : InstP' w b o p) (hb : Below w.heap.size w w') : InstP' w' b o p := ⟨h.box.below hb, instK.rd_below h.rd hb⟩

set_option maxHeartbeats 8000000 in
theorem l6Same_any (b o b' o' : Nat) (p q : InstQ) (w : World) (hP : InstP' w b o p) (hQ : InstP' w b' o' q) (hl : p.n ≤ 1048576) (hl' : q.n ≤ 1048576) :
    Calls Try.prog 80 #[.pointer (some ⟨b, o, none⟩), .pointer (some ⟨b', o', none⟩)] w fun e w' => e = .returned (.bool (sameJ p.e q.e)) ∧ Below w.heap.size w w' := by
  have hB : Below w.heap.size w w := Below.refl _ _
  obtain ⟨h1, vb, bt, vr, rs, vd, dc⟩ := p
  obtain ⟨h2, vb', bt', vr', rs', vd', dc'⟩ := q
  obtain ⟨hT, hR, hD⟩ : txnK.At w vb bt ∧ roundK.At w vr rs ∧ intK.At w vd dc := hP.rd
  obtain ⟨gT, gR, gD⟩ : txnK.At w vb' bt' ∧ roundK.At w vr' rs' ∧ intK.At w vd' dc' := hQ.rd
  dsimp only [InstQ.n] at hl hl'
  obtain ⟨a1, k1, rfl⟩ := hT.shape
  obtain ⟨a2, k2, rfl⟩ := hR.shape
  obtain ⟨a3, k3, rfl⟩ := hD.shape
  obtain ⟨b1, m1, rfl⟩ := gT.shape
  obtain ⟨b2, m2, rfl⟩ := gR.shape
  obtain ⟨b3, m3, rfl⟩ := gD.shape
  have e1 := fun w h h' => specSameTxns_any (.slice a1 bt.length k1) (.slice b1 bt'.length m1) (bt.map TxnQ.e) (bt'.map TxnQ.e) w h h' (by rw [List.length_map, sumA_of']; omega) (by rw [List.length_map, sumA_of']; omega)
  have e3 := fun w h h' => l1Same_any a3 b3 k3 m3 dc dc' w h h' (by omega) (by omega)
  generalize hE : sameJ _ _ = E
  have HE : Hid (E = ((h1 == h2) && sameTs (bt.map TxnQ.e) (bt'.map TxnQ.e) && sameRs (rs.map RoundQ.e) (rs'.map RoundQ.e) && sameZs dc dc')) := hE.symm
  clear hE
  generalize sameTs (bt.map TxnQ.e) (bt'.map TxnQ.e) = X at *
  generalize sameZs dc dc' = Z at *
  go_enter Try.func80, Try.ntmps80
  go_wp2_with fail
  cases hh : (h1 == h2) with
  | false =>
    have hh' : (h1 != h2) = true := by
      have : h1 ≠ h2 := by simpa using hh
      simpa using this
    have E1 : Hid (E = false) := by rw [HE.out, hh]; rfl
    have hW : Below w.heap.size w w.drew := (Below.refl _ _).drew
    have hnn : Nonempty (Lat w) := ⟨⟨w, Below.refl _ _⟩⟩
    have c0 := lat_cell hP.box.c0
    have c1 := lat_cell hP.box.c1
    have c2 := lat_cell hP.box.c2
    have c3 := lat_cell hP.box.c3
    have d0 := lat_cell hQ.box.c0
    have d1 := lat_cell hQ.box.c1
    have d2 := lat_cell hQ.box.c2
    have d3 := lat_cell hQ.box.c3
    dsimp only at c0 c1 c2 c3 d0 d1 d2 d3
    clear HE
    refine text_begin (S := fun w' => ∃ u : Lat w, w' = u.val) (by kernel_rfl) ?_
    refine sgr [(0, 18)] 28 (by kernel_rfl) ⟨⟨_, hW⟩, rfl⟩ ?_
    simp only [pkE]
    repeat go_big_quiet_step (fail)
    refine wpQuiet_nil ?_
    refine ska 18 (some 24) 27 (by kernel_rfl) ⟨⟨_, hW⟩, rfl⟩ ?_
    simp only [Act.put, pjE]
    refine sgr [(19, 7), (27, 4)] 16 (by kernel_rfl) ⟨⟨_, hW⟩, rfl⟩ ?_
    simp only [pkE]
    repeat go_big_quiet_step (fail)
    refine wpQuiet_nil ?_
    refine ska 26 (some 32) 15 (by kernel_rfl) ⟨⟨_, hW⟩, rfl⟩ ?_
    simp only [Act.put, pjE]
    refine ska 31 (some 37) 14 (by kernel_rfl) ⟨⟨_, hW⟩, rfl⟩ ?_
    simp only [Act.put, pjE]
    refine sgr [(32, 11)] 3 (by kernel_rfl) ⟨⟨_, hW⟩, rfl⟩ ?_
    simp only [pkE]
    repeat go_big_quiet_step (fail)
    refine wpQuiet_nil ?_
    refine ska 43 (some 49) 2 (by kernel_rfl) ⟨⟨_, hW⟩, rfl⟩ ?_
    simp only [Act.put, pjE]
    refine sgr [(44, 2)] 0 (by kernel_rfl) ⟨⟨_, hW⟩, rfl⟩ ?_
    simp only [pkE]
    repeat go_big_quiet_step (fail)
    refine wpQuiet_nil ?_
    refine text_end (by kernel_rfl) ?_
    replace hB := hB.trans (hW.mono hB.size)
    clear c0 c1 c2 c3 d0 d1 d2 d3 hW hnn
    go_wp2
    go_ret
    exact ⟨by rw [E1.out]; rfl, hB⟩
  | true =>
    have hh' : (h1 != h2) = false := by
      have : h1 = h2 := by simpa using hh
      simp [this]
    rw [hh] at HE
    cases X with
    | false =>
      have E1 : Hid (E = false) := by rw [HE.out]; rfl
      have hW : Below w.heap.size w w.drew := (Below.refl _ _).drew
      have hnn : Nonempty (Lat w) := ⟨⟨w, Below.refl _ _⟩⟩
      have c0 := lat_cell hP.box.c0
      have c1 := lat_cell hP.box.c1
      have c2 := lat_cell hP.box.c2
      have c3 := lat_cell hP.box.c3
      have d0 := lat_cell hQ.box.c0
      have d1 := lat_cell hQ.box.c1
      have d2 := lat_cell hQ.box.c2
      have d3 := lat_cell hQ.box.c3
      dsimp only at c0 c1 c2 c3 d0 d1 d2 d3
      clear HE
      refine text_begin (S := fun w' => ∃ u : Lat w, w' = u.val) (by kernel_rfl) ?_
      refine sgr [(0, 18)] 28 (by kernel_rfl) ⟨⟨_, hW⟩, rfl⟩ ?_
      simp only [pkE]
      repeat go_big_quiet_step (fail)
      refine wpQuiet_nil ?_
      refine cla 18 (some 24) 102 #[.slice a1 bt.length k1, .slice b1 bt'.length m1] 27 (by kernel_rfl) ?_
      refine (e1 _ (txnsAt_of' (hT.below hW)) (txnsAt_of' (gT.below hW))).mono ?_
      rintro e w9 ⟨rfl, hb9⟩
      replace hW := hW.trans (hb9.mono hW.size)
      clear hb9
      refine ⟨_, rfl, ⟨⟨_, hW⟩, rfl⟩, ?_⟩
      simp only [Act.put, pjE]
      refine sgr [(19, 7), (27, 4)] 16 (by kernel_rfl) ⟨⟨_, hW⟩, rfl⟩ ?_
      simp only [pkE]
      repeat go_big_quiet_step (fail)
      refine wpQuiet_nil ?_
      refine ska 26 (some 32) 15 (by kernel_rfl) ⟨⟨_, hW⟩, rfl⟩ ?_
      simp only [Act.put, pjE]
      refine ska 31 (some 37) 14 (by kernel_rfl) ⟨⟨_, hW⟩, rfl⟩ ?_
      simp only [Act.put, pjE]
      refine sgr [(32, 11)] 3 (by kernel_rfl) ⟨⟨_, hW⟩, rfl⟩ ?_
      simp only [pkE]
      repeat go_big_quiet_step (fail)
      refine wpQuiet_nil ?_
      refine ska 43 (some 49) 2 (by kernel_rfl) ⟨⟨_, hW⟩, rfl⟩ ?_
      simp only [Act.put, pjE]
      refine sgr [(44, 2)] 0 (by kernel_rfl) ⟨⟨_, hW⟩, rfl⟩ ?_
      simp only [pkE]
      repeat go_big_quiet_step (fail)
      refine wpQuiet_nil ?_
      refine text_end (by kernel_rfl) ?_
      replace hB := hB.trans (hW.mono hB.size)
      clear c0 c1 c2 c3 d0 d1 d2 d3 hW hnn
      go_wp2
      go_ret
      exact ⟨by rw [E1.out]; rfl, hB⟩
    | true =>
      by_cases hlen : rs.length = rs'.length
      case neg =>
        have hd : ((rs.length : Int) != (rs'.length : Int)) = true := by simp; omega
        have hs : sameRs (rs.map RoundQ.e) (rs'.map RoundQ.e) = false := same_len (f := sameR) rfl (fun _ _ _ _ => rfl) (fun _ _ => rfl) (fun _ _ => rfl) _ _ (by simpa using hlen)
        have E1 : Hid (E = false) := by rw [HE.out, hs]; rfl
        have hW : Below w.heap.size w w.drew := (Below.refl _ _).drew
        have hnn : Nonempty (Lat w) := ⟨⟨w, Below.refl _ _⟩⟩
        have c0 := lat_cell hP.box.c0
        have c1 := lat_cell hP.box.c1
        have c2 := lat_cell hP.box.c2
        have c3 := lat_cell hP.box.c3
        have d0 := lat_cell hQ.box.c0
        have d1 := lat_cell hQ.box.c1
        have d2 := lat_cell hQ.box.c2
        have d3 := lat_cell hQ.box.c3
        dsimp only at c0 c1 c2 c3 d0 d1 d2 d3
        clear HE
        refine text_begin (S := fun w' => ∃ u : Lat w, w' = u.val) (by kernel_rfl) ?_
        refine sgr [(0, 18)] 28 (by kernel_rfl) ⟨⟨_, hW⟩, rfl⟩ ?_
        simp only [pkE]
        repeat go_big_quiet_step (fail)
        refine wpQuiet_nil ?_
        refine cla 18 (some 24) 102 #[.slice a1 bt.length k1, .slice b1 bt'.length m1] 27 (by kernel_rfl) ?_
        refine (e1 _ (txnsAt_of' (hT.below hW)) (txnsAt_of' (gT.below hW))).mono ?_
        rintro e w9 ⟨rfl, hb9⟩
        replace hW := hW.trans (hb9.mono hW.size)
        clear hb9
        refine ⟨_, rfl, ⟨⟨_, hW⟩, rfl⟩, ?_⟩
        simp only [Act.put, pjE]
        refine sgr [(19, 7), (27, 4)] 16 (by kernel_rfl) ⟨⟨_, hW⟩, rfl⟩ ?_
        simp only [pkE]
        repeat go_big_quiet_step (fail)
        refine wpQuiet_nil ?_
        refine qta 26 (some 32) (.int .i64 (rs.length : Int)) 15 (by kernel_rfl) (fun u _ => by kernel_rfl) ⟨⟨_, hW⟩, rfl⟩ ?_
        simp only [Act.put, pjE]
        refine qta 31 (some 37) (.int .i64 (rs'.length : Int)) 14 (by kernel_rfl) (fun u _ => by kernel_rfl) ⟨⟨_, hW⟩, rfl⟩ ?_
        simp only [Act.put, pjE]
        refine sgr [(32, 11)] 3 (by kernel_rfl) ⟨⟨_, hW⟩, rfl⟩ ?_
        simp only [pkE]
        repeat go_big_quiet_step (fail)
        refine wpQuiet_nil ?_
        refine ska 43 (some 49) 2 (by kernel_rfl) ⟨⟨_, hW⟩, rfl⟩ ?_
        simp only [Act.put, pjE]
        refine sgr [(44, 2)] 0 (by kernel_rfl) ⟨⟨_, hW⟩, rfl⟩ ?_
        simp only [pkE]
        repeat go_big_quiet_step (fail)
        refine wpQuiet_nil ?_
        refine text_end (by kernel_rfl) ?_
        replace hB := hB.trans (hW.mono hB.size)
        clear c0 c1 c2 c3 d0 d1 d2 d3 hW hnn
        go_wp2
        go_ret
        exact ⟨by rw [E1.out]; rfl, hB⟩
      case pos =>
        have hd : ((rs.length : Int) != (rs'.length : Int)) = false := by simp [hlen]
        have HL : Hid (rs.length = rs'.length) := hlen
        have HM : Hid ((rs.map RoundQ.e).length = (rs'.map RoundQ.e).length) := show _ = _ by simpa using hlen
        clear hlen
        cases Z with
        | false =>
          have E1 : Hid (E = false) := show _ = _ by rw [HE.out]; simp
          have hW : Below w.heap.size w w.drew := (Below.refl _ _).drew
          have hnn : Nonempty (Lat w) := ⟨⟨w, Below.refl _ _⟩⟩
          have c0 := lat_cell hP.box.c0
          have c1 := lat_cell hP.box.c1
          have c2 := lat_cell hP.box.c2
          have c3 := lat_cell hP.box.c3
          have d0 := lat_cell hQ.box.c0
          have d1 := lat_cell hQ.box.c1
          have d2 := lat_cell hQ.box.c2
          have d3 := lat_cell hQ.box.c3
          dsimp only at c0 c1 c2 c3 d0 d1 d2 d3
          clear HE
          refine text_begin (S := fun w' => ∃ u : Lat w, w' = u.val) (by kernel_rfl) ?_
          refine sgr [(0, 18)] 28 (by kernel_rfl) ⟨⟨_, hW⟩, rfl⟩ ?_
          simp only [pkE]
          repeat go_big_quiet_step (fail)
          refine wpQuiet_nil ?_
          refine cla 18 (some 24) 102 #[.slice a1 bt.length k1, .slice b1 bt'.length m1] 27 (by kernel_rfl) ?_
          refine (e1 _ (txnsAt_of' (hT.below hW)) (txnsAt_of' (gT.below hW))).mono ?_
          rintro e w9 ⟨rfl, hb9⟩
          replace hW := hW.trans (hb9.mono hW.size)
          clear hb9
          refine ⟨_, rfl, ⟨⟨_, hW⟩, rfl⟩, ?_⟩
          simp only [Act.put, pjE]
          refine sgr [(19, 7), (27, 4)] 16 (by kernel_rfl) ⟨⟨_, hW⟩, rfl⟩ ?_
          simp only [pkE]
          repeat go_big_quiet_step (fail)
          refine wpQuiet_nil ?_
          refine qta 26 (some 32) (.int .i64 (rs.length : Int)) 15 (by kernel_rfl) (fun u _ => by kernel_rfl) ⟨⟨_, hW⟩, rfl⟩ ?_
          simp only [Act.put, pjE]
          refine qta 31 (some 37) (.int .i64 (rs'.length : Int)) 14 (by kernel_rfl) (fun u _ => by kernel_rfl) ⟨⟨_, hW⟩, rfl⟩ ?_
          simp only [Act.put, pjE]
          refine sgr [(32, 11)] 3 (by kernel_rfl) ⟨⟨_, hW⟩, rfl⟩ ?_
          simp only [pkE]
          repeat go_big_quiet_step (fail)
          refine wpQuiet_nil ?_
          refine cla 43 (some 49) 103 #[.slice a3 dc.length k3, .slice b3 dc'.length m3] 2 (by kernel_rfl) ?_
          refine (e3 _ (intK_at (hD.below hW)).2 (intK_at (gD.below hW)).2).mono ?_
          rintro e w9 ⟨rfl, hb9⟩
          replace hW := hW.trans (hb9.mono hW.size)
          clear hb9
          refine ⟨_, rfl, ⟨⟨_, hW⟩, rfl⟩, ?_⟩
          simp only [Act.put, pjE]
          refine sgr [(44, 2)] 0 (by kernel_rfl) ⟨⟨_, hW⟩, rfl⟩ ?_
          simp only [pkE]
          repeat go_big_quiet_step (fail)
          refine wpQuiet_nil ?_
          refine text_end (by kernel_rfl) ?_
          replace hB := hB.trans (hW.mono hB.size)
          clear c0 c1 c2 c3 d0 d1 d2 d3 hW hnn
          go_wp2
          go_ret
          exact ⟨by rw [E1.out]; rfl, hB⟩
        | true =>
          have HE2 : Hid (E = sameRs (rs.map RoundQ.e) (rs'.map RoundQ.e)) := by rw [HE.out, Bool.and_true]; exact (rfl : _ = _)
          clear HE
          have hW : Below w.heap.size w w.drew := (Below.refl _ _).drew
          have hnn : Nonempty (Lat w) := ⟨⟨w, Below.refl _ _⟩⟩
          have c0 := lat_cell hP.box.c0
          have c1 := lat_cell hP.box.c1
          have c2 := lat_cell hP.box.c2
          have c3 := lat_cell hP.box.c3
          have d0 := lat_cell hQ.box.c0
          have d1 := lat_cell hQ.box.c1
          have d2 := lat_cell hQ.box.c2
          have d3 := lat_cell hQ.box.c3
          dsimp only at c0 c1 c2 c3 d0 d1 d2 d3
          refine text_begin (S := fun w' => ∃ u : Lat w, w' = u.val) (by kernel_rfl) ?_
          refine sgr [(0, 18)] 28 (by kernel_rfl) ⟨⟨_, hW⟩, rfl⟩ ?_
          simp only [pkE]
          repeat go_big_quiet_step (fail)
          refine wpQuiet_nil ?_
          refine cla 18 (some 24) 102 #[.slice a1 bt.length k1, .slice b1 bt'.length m1] 27 (by kernel_rfl) ?_
          refine (e1 _ (txnsAt_of' (hT.below hW)) (txnsAt_of' (gT.below hW))).mono ?_
          rintro e w9 ⟨rfl, hb9⟩
          replace hW := hW.trans (hb9.mono hW.size)
          clear hb9
          refine ⟨_, rfl, ⟨⟨_, hW⟩, rfl⟩, ?_⟩
          simp only [Act.put, pjE]
          refine sgr [(19, 7), (27, 4)] 16 (by kernel_rfl) ⟨⟨_, hW⟩, rfl⟩ ?_
          simp only [pkE]
          repeat go_big_quiet_step (fail)
          refine wpQuiet_nil ?_
          refine qta 26 (some 32) (.int .i64 (rs.length : Int)) 15 (by kernel_rfl) (fun u _ => by kernel_rfl) ⟨⟨_, hW⟩, rfl⟩ ?_
          simp only [Act.put, pjE]
          refine qta 31 (some 37) (.int .i64 (rs'.length : Int)) 14 (by kernel_rfl) (fun u _ => by kernel_rfl) ⟨⟨_, hW⟩, rfl⟩ ?_
          simp only [Act.put, pjE]
          refine sgr [(32, 11)] 3 (by kernel_rfl) ⟨⟨_, hW⟩, rfl⟩ ?_
          simp only [pkE]
          repeat go_big_quiet_step (fail)
          refine wpQuiet_nil ?_
          refine cla 43 (some 49) 103 #[.slice a3 dc.length k3, .slice b3 dc'.length m3] 2 (by kernel_rfl) ?_
          refine (e3 _ (intK_at (hD.below hW)).2 (intK_at (gD.below hW)).2).mono ?_
          rintro e w9 ⟨rfl, hb9⟩
          replace hW := hW.trans (hb9.mono hW.size)
          clear hb9
          refine ⟨_, rfl, ⟨⟨_, hW⟩, rfl⟩, ?_⟩
          simp only [Act.put, pjE]
          refine sgr [(44, 2)] 0 (by kernel_rfl) ⟨⟨_, hW⟩, rfl⟩ ?_
          simp only [pkE]
          repeat go_big_quiet_step (fail)
          refine wpQuiet_nil ?_
          refine text_end (by kernel_rfl) ?_
          replace hB := hB.trans (hW.mono hB.size)
          clear c0 c1 c2 c3 d0 d1 d2 d3 hW hnn
          clear e1 e3 hd hT gT hD gD hh hh'
          have hP9 := hP.below hB
          obtain ⟨c0, c1, c2, c3⟩ := hP9.box
          dsimp only at c0 c1 c2 c3
          go_wp2
          clear c0 c1 c2 c3 hP9
          go_loopw [5] (fun j wr => ∃ k : Nat, k ≤ rs.length ∧ j = .int .i64 k ∧ Hid (∀ j, j < k → sameR ((rs.map RoundQ.e).getD j rndNo) ((rs'.map RoundQ.e).getD j rndNo) = true) ∧ Below w.heap.size w wr) (fun j _ => rs.length - (intOf j).toNat)
          case atStart => exact ⟨0, Nat.zero_le _, rfl, fun j hj => absurd hj (Nat.not_lt_zero _), hB⟩
          case round =>
            clear hB
            obtain ⟨k, hk, rfl, HA, hB⟩ := hrel
            have hPr := hP.below hB
            have hQr := hQ.below hB
            have hs0 := hPr.box.c2
            dsimp only at hs0
            by_cases hlt : k < rs.length
            · have hlt' : k < rs'.length := by have := HL.out; omega
              obtain ⟨rb, ro, rfl, hbs, hc, hrd⟩ := (hR.below hB).cell (by decide) k hlt
              obtain ⟨rb', ro', rfl, hbs', hd2, hrd'⟩ := (gR.below hB).cell (by decide) k hlt'
              have hc' : ∀ j x, (roundK.cells rs[k])[j]? = some x → wr.cell? ⟨rb, ro + k * 2 + j, none⟩ = some x := hc
              have hd' : ∀ j x, (roundK.cells rs'[k])[j]? = some x → wr.cell? ⟨rb', ro' + k * 2 + j, none⟩ = some x := hd2
              have f0 := hc' 0 (rs[k].vr) rfl
              have f1 := hc' 1 (rs[k].vp) rfl
              have g0 := hd' 0 (rs'[k].vr) rfl
              have g1 := hd' 1 (rs'[k].vp) rfl
              have n1 := nm_le RoundQ.n rs k hlt
              have n2 := nm_le RoundQ.n rs' k hlt'
              have HY : Hid (sameR (RoundQ.e rs[k]) (RoundQ.e rs'[k]) = false → E = false) := fun hx => by
                rw [HE2.out]
                exact same_bad (f := sameR) rndNo (fun _ _ _ _ => rfl) _ _ k HM.out (by simpa using hlt) (by rw [rnd_get rs k hlt, rnd_get rs' k hlt']; exact hx)
              have HN : Hid (sameR (RoundQ.e rs[k]) (RoundQ.e rs'[k]) = true → ∀ j, j < k + 1 → sameR ((rs.map RoundQ.e).getD j rndNo) ((rs'.map RoundQ.e).getD j rndNo) = true) := fun hx j hj => by
                by_cases hjk : j = k
                · subst hjk
                  rw [rnd_get rs j hlt, rnd_get rs' j hlt']
                  exact hx
                · exact HA.out j (by omega)
              clear HA hc hc' hd2 hd' hs0
              generalize rs[k] = p at *
              generalize rs'[k] = q at *
              obtain ⟨pv, pr, pw, pp⟩ := p
              obtain ⟨qv, qr, qw, qp⟩ := q
              obtain ⟨u1, u2⟩ : intK.At wr pv pr ∧ intK.At wr pw pp := hrd
              obtain ⟨t1, t2⟩ : intK.At wr qv qr ∧ intK.At wr qw qp := hrd'
              obtain ⟨x1, j1, rfl⟩ := u1.shape
              obtain ⟨x2, j2, rfl⟩ := u2.shape
              obtain ⟨y1, l1, rfl⟩ := t1.shape
              obtain ⟨y2, l2, rfl⟩ := t2.shape
              dsimp only [RoundQ.n, RoundQ.e, sameR] at f0 f1 g0 g1 n1 n2 HY HN
              rw [Nat.add_zero] at f0 g0
              have s1 := fun w h h' => l1Same_any x1 y1 j1 l1 pr qr w h h' (by omega) (by omega)
              have s2 := fun w h h' => l1Same_any x2 y2 j2 l2 pp qp w h h' (by omega) (by omega)
              generalize sameZs pr qr = X1 at *
              generalize sameZs pp qp = X2 at *
              have hW : Below wr.heap.size wr wr.drew := (Below.refl _ _).drew
              have hnn : Nonempty (Lat wr) := ⟨⟨wr, Below.refl _ _⟩⟩
              have c2 := lat_cell hPr.box.c2
              have d2 := lat_cell hQr.box.c2
              have v0 := lat_cell f0
              have v1 := lat_cell f1
              have z0 := lat_cell g0
              have z1 := lat_cell g1
              dsimp only at c2 d2
              have cc2 := hPr.box.c2
              dsimp only at cc2
              have hlti : (k : Int) < (rs.length : Int) := by omega
              have hlti' : (k : Int) < (rs'.length : Int) := by omega
              clear f0 f1 g0 g1
              go_wp2_with fail
              clear cc2
              cases X1 with
              | false =>
                have E1 : Hid (E = false) := HY.out rfl
                refine text_begin (S := fun w' => ∃ u : Lat wr, w' = u.val) (by kernel_rfl) ?_
                refine sgr [(0, 16)] 22 (by kernel_rfl) ⟨⟨_, hW⟩, rfl⟩ ?_
                simp only [pkE]
                repeat go_big_quiet_step (fail)
                refine wpQuiet_nil ?_
                refine cla 16 (some 77) 103 #[.slice x1 pr.length j1, .slice y1 qr.length l1] 21 (by kernel_rfl) ?_
                refine (s1 _ (intK_at (u1.below hW)).2 (intK_at (t1.below hW)).2).mono ?_
                rintro e w9 ⟨rfl, hb9⟩
                replace hW := hW.trans (hb9.mono hW.size)
                clear hb9
                refine ⟨_, rfl, ⟨⟨_, hW⟩, rfl⟩, ?_⟩
                simp only [Act.put, pjE]
                refine sgr [(17, 18)] 3 (by kernel_rfl) ⟨⟨_, hW⟩, rfl⟩ ?_
                simp only [pkE]
                repeat go_big_quiet_step (fail)
                refine wpQuiet_nil ?_
                refine ska 35 (some 96) 2 (by kernel_rfl) ⟨⟨_, hW⟩, rfl⟩ ?_
                simp only [Act.put, pjE]
                refine sgr [(36, 2)] 0 (by kernel_rfl) ⟨⟨_, hW⟩, rfl⟩ ?_
                simp only [pkE]
                repeat go_big_quiet_step (fail)
                refine wpQuiet_nil ?_
                refine text_end (by kernel_rfl) ?_
                replace hB := hB.trans (hW.mono hB.size)
                clear c2 d2 v0 v1 z0 z1 hW hnn s1 s2 HY HN HE2
                go_wp2
                go_ret
                exact ⟨by rw [E1.out]; rfl, hB⟩
              | true =>
                cases X2 with
                | false =>
                  have E1 : Hid (E = false) := HY.out rfl
                  refine text_begin (S := fun w' => ∃ u : Lat wr, w' = u.val) (by kernel_rfl) ?_
                  refine sgr [(0, 16)] 22 (by kernel_rfl) ⟨⟨_, hW⟩, rfl⟩ ?_
                  simp only [pkE]
                  repeat go_big_quiet_step (fail)
                  refine wpQuiet_nil ?_
                  refine cla 16 (some 77) 103 #[.slice x1 pr.length j1, .slice y1 qr.length l1] 21 (by kernel_rfl) ?_
                  refine (s1 _ (intK_at (u1.below hW)).2 (intK_at (t1.below hW)).2).mono ?_
                  rintro e w9 ⟨rfl, hb9⟩
                  replace hW := hW.trans (hb9.mono hW.size)
                  clear hb9
                  refine ⟨_, rfl, ⟨⟨_, hW⟩, rfl⟩, ?_⟩
                  simp only [Act.put, pjE]
                  refine sgr [(17, 18)] 3 (by kernel_rfl) ⟨⟨_, hW⟩, rfl⟩ ?_
                  simp only [pkE]
                  repeat go_big_quiet_step (fail)
                  refine wpQuiet_nil ?_
                  refine cla 35 (some 96) 103 #[.slice x2 pp.length j2, .slice y2 qp.length l2] 2 (by kernel_rfl) ?_
                  refine (s2 _ (intK_at (u2.below hW)).2 (intK_at (t2.below hW)).2).mono ?_
                  rintro e w9 ⟨rfl, hb9⟩
                  replace hW := hW.trans (hb9.mono hW.size)
                  clear hb9
                  refine ⟨_, rfl, ⟨⟨_, hW⟩, rfl⟩, ?_⟩
                  simp only [Act.put, pjE]
                  refine sgr [(36, 2)] 0 (by kernel_rfl) ⟨⟨_, hW⟩, rfl⟩ ?_
                  simp only [pkE]
                  repeat go_big_quiet_step (fail)
                  refine wpQuiet_nil ?_
                  refine text_end (by kernel_rfl) ?_
                  replace hB := hB.trans (hW.mono hB.size)
                  clear c2 d2 v0 v1 z0 z1 hW hnn s1 s2 HY HN HE2
                  go_wp2
                  go_ret
                  exact ⟨by rw [E1.out]; rfl, hB⟩
                | true =>
                  have R := HN.out rfl
                  have HR : Hid _ := R
                  clear R HN HY
                  refine text_begin (S := fun w' => ∃ u : Lat wr, w' = u.val) (by kernel_rfl) ?_
                  refine sgr [(0, 16)] 22 (by kernel_rfl) ⟨⟨_, hW⟩, rfl⟩ ?_
                  simp only [pkE]
                  repeat go_big_quiet_step (fail)
                  refine wpQuiet_nil ?_
                  refine cla 16 (some 77) 103 #[.slice x1 pr.length j1, .slice y1 qr.length l1] 21 (by kernel_rfl) ?_
                  refine (s1 _ (intK_at (u1.below hW)).2 (intK_at (t1.below hW)).2).mono ?_
                  rintro e w9 ⟨rfl, hb9⟩
                  replace hW := hW.trans (hb9.mono hW.size)
                  clear hb9
                  refine ⟨_, rfl, ⟨⟨_, hW⟩, rfl⟩, ?_⟩
                  simp only [Act.put, pjE]
                  refine sgr [(17, 18)] 3 (by kernel_rfl) ⟨⟨_, hW⟩, rfl⟩ ?_
                  simp only [pkE]
                  repeat go_big_quiet_step (fail)
                  refine wpQuiet_nil ?_
                  refine cla 35 (some 96) 103 #[.slice x2 pp.length j2, .slice y2 qp.length l2] 2 (by kernel_rfl) ?_
                  refine (s2 _ (intK_at (u2.below hW)).2 (intK_at (t2.below hW)).2).mono ?_
                  rintro e w9 ⟨rfl, hb9⟩
                  replace hW := hW.trans (hb9.mono hW.size)
                  clear hb9
                  refine ⟨_, rfl, ⟨⟨_, hW⟩, rfl⟩, ?_⟩
                  simp only [Act.put, pjE]
                  refine sgr [(36, 2)] 0 (by kernel_rfl) ⟨⟨_, hW⟩, rfl⟩ ?_
                  simp only [pkE]
                  repeat go_big_quiet_step (fail)
                  refine wpQuiet_nil ?_
                  refine text_end (by kernel_rfl) ?_
                  replace hB := hB.trans (hW.mono hB.size)
                  clear c2 d2 v0 v1 z0 z1 hW hnn s1 s2
                  go_wp2
                  go_roundw
                  case rel => exact ⟨k + 1, by omega, by go_num, HR.out, hB⟩
                  case measure => simp [intOf]; omega
            · have E1 : Hid (E = true) := by rw [HE2.out]; exact same_all (f := sameR) rndNo rfl (fun _ _ _ _ => rfl) _ _ HM.out (fun j hj => HA.out j (Nat.lt_of_lt_of_le (show j < rs.length by simpa using hj) (by omega)))
              clear HA HE2
              go_wp2
              go_ret
              exact ⟨by rw [E1.out]; rfl, hB⟩

end Go.Proofs.Ytkkdjgiencilbaa

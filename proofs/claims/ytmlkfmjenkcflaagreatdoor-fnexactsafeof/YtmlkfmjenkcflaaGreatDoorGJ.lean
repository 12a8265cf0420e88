/- Whether an instance is right, of the model: what a node said in a round; what was decided; the whole. -/
import Derived.Test.YtmlkfmjenkcflaaGreatDoorM6b
namespace Go.Proofs.YtmlkfmjenkcflaaGreatDoor
open Go.RowKit
open Go.BigFrame
set_option linter.unusedVariables false
set_option maxRecDepth 100000
set_option linter.unusedSimpArgs false

theorem pro_no {rs : List RoundE} {r n : Nat} (h : proA rs r n ≠ 3) (h2 : repA rs r n = 3 ∨ mayP (rs.getD r rnd0).rep (proA rs r n) = false) : proR rs r n = false := by
  unfold proR
  rw [Bool.or_eq_false_iff]
  refine ⟨by simpa using h, ?_⟩
  rcases h2 with h2 | h2
  · rw [h2]; rfl
  · rw [h2]; simp
theorem pro_yes {rs : List RoundE} {r n : Nat} (h : proA rs r n = 3 ∨ (repA rs r n ≠ 3 ∧ mayP (rs.getD r rnd0).rep (proA rs r n) = true)) : proR rs r n = true := by
  unfold proR
  rw [Bool.or_eq_true]
  rcases h with h | ⟨h1, h2⟩
  · left; simpa using h
  · right; rw [h2]; simpa using h1
theorem say_no {has : Bool} {rs : List RoundE} {r n : Nat} (h : proR rs r n = false) : sayM has rs r n = false := by
  unfold sayM
  rw [h]; rfl
theorem say_open {has : Bool} {rs : List RoundE} {r n : Nat} (h : proR rs r n = true) (h2 : r = 0 ∨ repA rs r n = 3) : sayM has rs r n = true := by
  unfold sayM
  rw [h, if_pos h2]; rfl
theorem say_bef {has : Bool} {rs : List RoundE} {r n : Nat} (h : proR rs r n = true) (h2 : ¬ (r = 0 ∨ repA rs r n = 3)) : sayM has rs r n = (befR rs r n && (has || (repA rs r n == 0) || decide (0 < cnt 7 (rs.getD (r - 1) rnd0).pro 1))) := by
  unfold sayM
  rw [h, if_neg h2]; rfl
theorem vf_row {w : World} {v : Value} {zs : List Int} {m : Int} (h : intK.At w v zs) (hv : vf zs m = 0) (n : Nat) (hn : n < 3) : ∃ a c b off, v = .slice a 3 c ∧ a = some ⟨b, off, none⟩ ∧ w.cell? ⟨b, off + n, none⟩ = some (.int .i64 (zs.getD n 0)) ∧ Row .i64 w a zs := by
  have hl := vf_len hv
  obtain ⟨a, c, e⟩ := h.shape
  subst e
  have hR := (intK_at h).2
  obtain ⟨b, off, ha, _, hc⟩ := hR n (by omega)
  exact ⟨a, c, b, off, by rw [hl], ha, hc, hR⟩

set_option maxHeartbeats 4000000 in
theorem l6Said_any (b o : Nat) (p : InstQ) (r n : Nat) (w : World) (hP : InstP w b o p) (hr : r < p.rounds.length) (h4 : p.rounds.length ≤ 4) (hn : n < 3) (hF : rndsF (p.rounds.map RoundQ.e) = 0) :
    Calls Tryz.prog 28 #[.pointer (some ⟨b, o, none⟩), .int .i64 (r : Int), .int .i64 (n : Int)] w fun e w' => e = .returned (.bool (sayM p.has (p.rounds.map RoundQ.e) r n)) ∧ Below w.heap.size w w' := by
  have hB : Below w.heap.size w w := Below.refl _ _
  obtain ⟨has, vb, batch, vr, rounds, vd, dec⟩ := p
  dsimp only at hr h4 hF ⊢
  have HE : Hid (sayM has (rounds.map RoundQ.e) r n = sayM has (rounds.map RoundQ.e) r n) := (rfl : _ = _)
  generalize hE : sayM has (rounds.map RoundQ.e) r n = E at HE ⊢
  replace HE : Hid (E = sayM has (rounds.map RoundQ.e) r n) := hE.symm
  clear hE
  obtain ⟨ra0, rk0, rfl⟩ : ∃ a c, vr = .slice a rounds.length c := hP.rounds.shape
  obtain ⟨hv1, hv2⟩ := rndsF_at hF r (by rw [List.length_map]; exact hr)
  have hat := rnd_at rounds r hr
  rw [hat] at hv1 hv2
  have hv1 : vf rounds[r].rep 1 = 0 := hv1
  have hv2 : vf rounds[r].pro 2 = 0 := hv2
  generalize hrs : rounds.map RoundQ.e = rs at *
  have HQ : Hid (proA rs r n = rounds[r].pro.getD n 0 ∧ repA rs r n = rounds[r].rep.getD n 0 ∧ (rs.getD r rnd0).rep = rounds[r].rep) := by
    refine ⟨?_, ?_, ?_⟩
    · show (rs.getD r rnd0).pro.getD n 0 = _
      rw [hat]; rfl
    · show (rs.getD r rnd0).rep.getD n 0 = _
      rw [hat]; rfl
    · rw [hat]; rfl
  obtain ⟨rb, ro, hra, hbs, hc, hrd⟩ := hP.rounds.cell (by decide) r hr
  have hra' : ra0 = some ⟨rb, ro, none⟩ := hra
  have hc' : ∀ j x, (roundK.cells rounds[r])[j]? = some x → w.cell? ⟨rb, ro + r * 2 + j, none⟩ = some x := hc
  have r0 := hc' 0 (rounds[r].vr) rfl
  have r1 := hc' 1 (rounds[r].vp) rfl
  obtain ⟨hA1, hA2⟩ : intK.At w rounds[r].vr rounds[r].rep ∧ intK.At w rounds[r].vp rounds[r].pro := hrd
  clear hc hc' hat hra
  generalize rounds[r].vr = qv at *
  generalize rounds[r].rep = qr at *
  generalize rounds[r].vp = qw at *
  generalize rounds[r].pro = qp at *
  obtain ⟨xa, xc, xb, xo, rfl, hxa, xcell, xRow⟩ := vf_row hA1 hv1 n hn
  obtain ⟨ya, yc, yb, yo, rfl, hya, ycell, yRow⟩ := vf_row hA2 hv2 n hn
  have hmp := fun w h => specMayP_any xa xc qr (qp.getD n 0) w h (by have := vf_len hv1; omega)
  rw [vf_len hv1] at hmp
  subst hxa hya
  obtain ⟨c0, c1, c2, c3⟩ := hP.box
  dsimp only at c0 c1 c2 c3
  clear hA1 hA2
  generalize hPP : qp.getD n 0 = PP at *
  generalize hRR : qr.getD n 0 = RR at *
  have HRR : Hid (RR = repA rs r n) := HQ.out.2.1.symm
  have hnn : (n : Int) < 3 := by omega
  rw [Nat.add_zero] at r0
  subst hra'
  go_enter Tryz.func28, Tryz.ntmps28
  by_cases hP3 : PP = 3
  · have HPR : Hid (proR rs r n = true) := pro_yes (Or.inl (by rw [HQ.out.1]; exact hP3))
    have hP3' : (PP != 3) = false := by simp [hP3]
    clear HQ hmp yRow
    by_cases hr0 : r = 0
    · have E2 : Hid (E = true) := by rw [HE.out]; exact say_open HPR.out (Or.inl hr0)
      subst hr0
      try simp only [Nat.zero_mul, Nat.add_zero] at r0 r1
      clear HE HPR
      go_wp2
      go_ret
      exact ⟨by rw [E2.out]; rfl, hB⟩
    · obtain ⟨s, rfl⟩ : ∃ s, r = s + 1 := ⟨r - 1, by omega⟩
      have hr0' : (((s + 1 : Nat) : Int) == 0) = false := by simp; omega
      by_cases hR3 : repA rs (s + 1) n = 3
      · have E2 : Hid (E = true) := by rw [HE.out]; exact say_open HPR.out (Or.inr hR3)
        have hR3' : (RR == 3) = true := by rw [HRR.out, hR3]; rfl
        clear HE HPR
        go_wp2
        go_ret
        exact ⟨by rw [E2.out]; rfl, hB⟩
      · have HS : Hid (E = (befR rs (s + 1) n && (has || (repA rs (s + 1) n == 0) || decide (0 < cnt 7 (rs.getD s rnd0).pro 1)))) := by
          rw [HE.out]; exact say_bef HPR.out (by omega)
        have hR3' : (RR == 3) = false := by rw [HRR.out]; simpa using hR3
        have HBF : Hid (befR rs (s + 1) n = ((proA rs s n != 3) && mayR (rs.getD s rnd0).pro (repA rs (s + 1) n))) := (rfl : _ = _)
        clear HE HPR
        obtain ⟨c0, c1, c2, c3⟩ := hP.box
        dsimp only at c0 c1 c2 c3
        have hs : s < rounds.length := by omega
        obtain ⟨sb, so, hsa, hsbs, hsc, hsrd⟩ := hP.rounds.cell (by decide) s hs
        simp only [Option.some.injEq, Addr.mk.injEq, and_true] at hsa
        obtain ⟨rfl, rfl⟩ := hsa
        have hsc' : ∀ j x, (roundK.cells rounds[s])[j]? = some x → w.cell? ⟨rb, ro + s * 2 + j, none⟩ = some x := hsc
        have s1 := hsc' 1 (rounds[s].vp) rfl
        have hvs := (rndsF_at hF s (by rw [← hrs, List.length_map]; exact hs)).2
        rw [← hrs, rnd_at rounds s hs] at hvs
        have hvs : vf rounds[s].pro 2 = 0 := hvs
        have HA : Hid (proA rs s n = rounds[s].pro.getD n 0 ∧ (rs.getD s rnd0).pro = rounds[s].pro) := by
          have : rs.getD s rnd0 = RoundQ.e rounds[s] := by rw [← hrs]; exact rnd_at rounds s hs
          refine ⟨?_, ?_⟩
          · show (rs.getD s rnd0).pro.getD n 0 = _
            rw [this]; rfl
          · rw [this]; rfl
        have hprd : intK.At w rounds[s].vp rounds[s].pro := hsrd.2
        clear hsc hsc' hsrd
        generalize rounds[s].vp = qw at *
        generalize rounds[s].pro = qp at *
        obtain ⟨pa, pc, pb, po, rfl, hpa, pcell, pRow⟩ := vf_row hprd hvs n hn
        have hmr := fun w h => specMayR_any pa pc qp RR w h (by have := vf_len hvs; omega)
        have hct := fun w h => l5Count_any pa pc qp 7 1 w h (vf_len hvs) rfl
        rw [vf_len hvs] at hmr
        have HS2 : Hid (E = (((qp.getD n 0 != 3) && mayR qp RR) && (has || (RR == 0) || decide (0 < cnt 7 qp 1)))) := by
          rw [HS.out, HBF.out, HA.out.1, HA.out.2, ← HRR.out]
          exact (rfl : _ = _)
        subst hpa
        clear HS HBF HA hprd hvs
        generalize qp.getD n 0 = AA at *
        by_cases hA : AA = 3
        · have E2 : Hid (E = false) := by rw [HS2.out, hA]; rfl
          have hA' : (AA == 3) = true := by simp [hA]
          clear HS2 hmr hct hA
          go_wp2
          go_ret
          exact ⟨by rw [E2.out]; rfl, hB⟩
        · have hA' : (AA == 3) = false := by simpa using hA
          have hA2 : (AA != 3) = true := by simpa using hA
          rw [hA2] at HS2
          clear hA hA2
          have hmr1 := hmr w pRow
          generalize mayR qp RR = Y at *
          go_wp2_with fail
          refine hmr1.mono ?_
          rintro e w5 ⟨rfl, hb5⟩
          have hP5 := hP.below hb5
          replace hB := hB.trans (hb5.mono hB.size)
          have pRow5 := pRow.below hb5
          clear hmr hmr1 c0 c1 c2 c3 s1 pcell
          obtain ⟨c0, c1, c2, c3⟩ := hP5.box
          dsimp only at c0 c1 c2 c3
          cases Y with
          | false =>
            have E2 : Hid (E = false) := by rw [HS2.out]; rfl
            clear HS2 hct
            go_wp2
            go_ret
            exact ⟨by rw [E2.out]; rfl, hB⟩
          | true =>
            cases has with
            | true =>
              have E2 : Hid (E = true) := by rw [HS2.out]; rfl
              clear HS2 hct
              go_wp2
              go_ret
              exact ⟨by rw [E2.out]; rfl, hB⟩
            | false =>
              by_cases hz : RR = 0
              · have E2 : Hid (E = true) := by rw [HS2.out, hz]; rfl
                have hz' : (RR == 0) = true := by simp [hz]
                clear HS2 hct hz
                go_wp2
                go_ret
                exact ⟨by rw [E2.out]; rfl, hB⟩
              · have hz' : (RR == 0) = false := by simpa using hz
                rw [hz'] at HS2
                have hct1 := hct w5 pRow5
                generalize cnt 7 qp 1 = CC at *
                clear hz hct
                go_wp2_with fail
                refine hct1.mono ?_
                rintro e w6 ⟨rfl, hb6⟩
                replace hB := hB.trans (hb6.mono hB.size)
                clear hct1 hb6 c0 c1 c2 c3
                have E2 : Hid (E = decide (0 < CC)) := show _ = _ by rw [HS2.out]; simp
                clear HS2
                go_wp2
                go_ret
                exact ⟨by rw [E2.out]; rfl, hB⟩
  · have hP3' : (PP != 3) = true := by simpa using hP3
    by_cases hR3 : RR = 3
    · have E2 : Hid (E = false) := by rw [HE.out]; exact say_no (pro_no (by rw [HQ.out.1]; exact hP3) (Or.inl (by rw [← HRR.out]; exact hR3)))
      have hR3' : (RR == 3) = true := by simp [hR3]
      clear HE HQ hmp hR3 hP3
      go_wp2
      go_ret
      exact ⟨by rw [E2.out]; rfl, hB⟩
    · have hR3' : (RR == 3) = false := by simpa using hR3
      have HX : Hid (mayP qr PP = false → E = false) := fun hx => by rw [HE.out]; exact say_no (pro_no (by rw [HQ.out.1]; exact hP3) (Or.inr (by rw [HQ.out.2.2, HQ.out.1]; exact hx)))
      have HY : Hid (mayP qr PP = true → proR rs r n = true) := fun hx => pro_yes (Or.inr ⟨by rw [← HRR.out]; exact hR3, by rw [HQ.out.2.2, HQ.out.1]; exact hx⟩)
      have hmp1 := hmp w xRow
      generalize mayP qr PP = X at *
      clear hR3 hP3 HQ hmp
      go_wp2_with fail
      refine hmp1.mono ?_
      rintro e w1 ⟨rfl, hb1⟩
      replace hP := hP.below hb1
      replace hB := hB.trans (hb1.mono hB.size)
      clear hmp1 c0 c1 c2 c3 r0 r1 xcell ycell yRow xRow
      cases X with
      | false =>
        have E2 : Hid (E = false) := HX.out rfl
        clear HX HY HE
        go_wp2
        go_ret
        exact ⟨by rw [E2.out]; rfl, hB⟩
      | true =>
        have HPR : Hid (proR rs r n = true) := HY.out rfl
        clear HX HY hR3' hP3'
        by_cases hr0 : r = 0
        · have E2 : Hid (E = true) := by rw [HE.out]; exact say_open HPR.out (Or.inl hr0)
          subst hr0
          try simp only [Nat.zero_mul, Nat.add_zero] at r0 r1
          clear HE HPR
          go_wp2
          go_ret
          exact ⟨by rw [E2.out]; rfl, hB⟩
        · obtain ⟨s, rfl⟩ : ∃ s, r = s + 1 := ⟨r - 1, by omega⟩
          have hr0' : (((s + 1 : Nat) : Int) == 0) = false := by simp; omega
          by_cases hR3 : repA rs (s + 1) n = 3
          · have E2 : Hid (E = true) := by rw [HE.out]; exact say_open HPR.out (Or.inr hR3)
            have hR3' : (RR == 3) = true := by rw [HRR.out, hR3]; rfl
            clear HE HPR
            go_wp2
            go_ret
            exact ⟨by rw [E2.out]; rfl, hB⟩
          · have HS : Hid (E = (befR rs (s + 1) n && (has || (repA rs (s + 1) n == 0) || decide (0 < cnt 7 (rs.getD s rnd0).pro 1)))) := by
              rw [HE.out]; exact say_bef HPR.out (by omega)
            have hR3' : (RR == 3) = false := by rw [HRR.out]; simpa using hR3
            have HBF : Hid (befR rs (s + 1) n = ((proA rs s n != 3) && mayR (rs.getD s rnd0).pro (repA rs (s + 1) n))) := (rfl : _ = _)
            clear HE HPR
            obtain ⟨c0, c1, c2, c3⟩ := hP.box
            dsimp only at c0 c1 c2 c3
            have hs : s < rounds.length := by omega
            obtain ⟨sb, so, hsa, hsbs, hsc, hsrd⟩ := hP.rounds.cell (by decide) s hs
            simp only [Option.some.injEq, Addr.mk.injEq, and_true] at hsa
            obtain ⟨rfl, rfl⟩ := hsa
            have hsc' : ∀ j x, (roundK.cells rounds[s])[j]? = some x → w1.cell? ⟨rb, ro + s * 2 + j, none⟩ = some x := hsc
            have s1 := hsc' 1 (rounds[s].vp) rfl
            have hvs := (rndsF_at hF s (by rw [← hrs, List.length_map]; exact hs)).2
            rw [← hrs, rnd_at rounds s hs] at hvs
            have hvs : vf rounds[s].pro 2 = 0 := hvs
            have HA : Hid (proA rs s n = rounds[s].pro.getD n 0 ∧ (rs.getD s rnd0).pro = rounds[s].pro) := by
              have : rs.getD s rnd0 = RoundQ.e rounds[s] := by rw [← hrs]; exact rnd_at rounds s hs
              refine ⟨?_, ?_⟩
              · show (rs.getD s rnd0).pro.getD n 0 = _
                rw [this]; rfl
              · rw [this]; rfl
            have hprd : intK.At w1 rounds[s].vp rounds[s].pro := hsrd.2
            clear hsc hsc' hsrd
            generalize rounds[s].vp = qw at *
            generalize rounds[s].pro = qp at *
            obtain ⟨pa, pc, pb, po, rfl, hpa, pcell, pRow⟩ := vf_row hprd hvs n hn
            have hmr := fun w h => specMayR_any pa pc qp RR w h (by have := vf_len hvs; omega)
            have hct := fun w h => l5Count_any pa pc qp 7 1 w h (vf_len hvs) rfl
            rw [vf_len hvs] at hmr
            have HS2 : Hid (E = (((qp.getD n 0 != 3) && mayR qp RR) && (has || (RR == 0) || decide (0 < cnt 7 qp 1)))) := by
              rw [HS.out, HBF.out, HA.out.1, HA.out.2, ← HRR.out]
              exact (rfl : _ = _)
            subst hpa
            clear HS HBF HA hprd hvs
            generalize qp.getD n 0 = AA at *
            by_cases hA : AA = 3
            · have E2 : Hid (E = false) := by rw [HS2.out, hA]; rfl
              have hA' : (AA == 3) = true := by simp [hA]
              clear HS2 hmr hct hA
              go_wp2
              go_ret
              exact ⟨by rw [E2.out]; rfl, hB⟩
            · have hA' : (AA == 3) = false := by simpa using hA
              have hA2 : (AA != 3) = true := by simpa using hA
              rw [hA2] at HS2
              clear hA hA2
              have hmr1 := hmr w1 pRow
              generalize mayR qp RR = Y at *
              go_wp2_with fail
              refine hmr1.mono ?_
              rintro e w5 ⟨rfl, hb5⟩
              have hP5 := hP.below hb5
              replace hB := hB.trans (hb5.mono hB.size)
              have pRow5 := pRow.below hb5
              clear hmr hmr1 c0 c1 c2 c3 s1 pcell
              obtain ⟨c0, c1, c2, c3⟩ := hP5.box
              dsimp only at c0 c1 c2 c3
              cases Y with
              | false =>
                have E2 : Hid (E = false) := by rw [HS2.out]; rfl
                clear HS2 hct
                go_wp2
                go_ret
                exact ⟨by rw [E2.out]; rfl, hB⟩
              | true =>
                cases has with
                | true =>
                  have E2 : Hid (E = true) := by rw [HS2.out]; rfl
                  clear HS2 hct
                  go_wp2
                  go_ret
                  exact ⟨by rw [E2.out]; rfl, hB⟩
                | false =>
                  by_cases hz : RR = 0
                  · have E2 : Hid (E = true) := by rw [HS2.out, hz]; rfl
                    have hz' : (RR == 0) = true := by simp [hz]
                    clear HS2 hct hz
                    go_wp2
                    go_ret
                    exact ⟨by rw [E2.out]; rfl, hB⟩
                  · have hz' : (RR == 0) = false := by simpa using hz
                    rw [hz'] at HS2
                    have hct1 := hct w5 pRow5
                    generalize cnt 7 qp 1 = CC at *
                    clear hz hct
                    go_wp2_with fail
                    refine hct1.mono ?_
                    rintro e w6 ⟨rfl, hb6⟩
                    replace hB := hB.trans (hb6.mono hB.size)
                    clear hct1 hb6 c0 c1 c2 c3
                    have E2 : Hid (E = decide (0 < CC)) := show _ = _ by rw [HS2.out]; simp
                    clear HS2
                    go_wp2
                    go_ret
                    exact ⟨by rw [E2.out]; rfl, hB⟩


end Go.Proofs.YtmlkfmjenkcflaaGreatDoor

/- Whether an instance is right, of the model: what was decided; the whole. -/
namespace Go.Proofs.YtmlkfmjenkcflaaGreatDoor
open Go.RowKit
open Go.BigFrame
set_option linter.unusedVariables false
set_option maxRecDepth 100000
set_option linter.unusedSimpArgs false

theorem agr_at {rs : List RoundE} {v : Int} {k : Nat} (hk : k < rs.length) (h : 2 ≤ cnt 7 (rs.getD k rnd0).pro v) : agr rs v = true := by
  unfold agr
  rw [List.any_eq_true]
  refine ⟨rs[k], List.getElem_mem hk, ?_⟩
  have e : rs.getD k rnd0 = rs[k] := by simp [List.getD, hk]
  rw [e] at h
  simpa using h
theorem agr_none {rs : List RoundE} {v : Int} (h : ∀ k, k < rs.length → cnt 7 (rs.getD k rnd0).pro v < 2) : agr rs v = false := by
  unfold agr
  rw [List.any_eq_false]
  intro x hx
  obtain ⟨k, hk, rfl⟩ := List.getElem_of_mem hx
  have e : rs.getD k rnd0 = rs[k] := by simp [List.getD, hk]
  have := h k hk
  rw [e] at this
  simpa using this

set_option maxHeartbeats 4000000 in
theorem l6Ended_any (b o : Nat) (p : InstQ) (n : Nat) (w : World) (hP : InstP w b o p) (h4 : p.rounds.length ≤ 4) (hn : n < 3) (hF : rndsF (p.rounds.map RoundQ.e) = 0) (hD : vf p.dec 1 = 0) :
    Calls Tryz.prog 29 #[.pointer (some ⟨b, o, none⟩), .int .i64 (n : Int)] w fun e w' => e = .returned (.bool (endR (p.rounds.map RoundQ.e) (p.dec.getD n 0))) ∧ Below w.heap.size w w' := by
  obtain ⟨has, vb, batch, vr, rounds, vd, dec⟩ := p
  dsimp only at h4 hF hD ⊢
  have hdec : intK.At w vd dec := hP.dec
  obtain ⟨da, dc, db, dof, rfl, hda, dcell, dRow⟩ := vf_row hdec hD n hn
  subst hda
  generalize hE : endR (rounds.map RoundQ.e) (dec.getD n 0) = E
  have HE : Hid (E = ((dec.getD n 0 == 3) || agr (rounds.map RoundQ.e) (dec.getD n 0))) := hE.symm
  clear hE hdec dRow
  generalize dec.getD n 0 = v at *
  obtain ⟨ra, rk, rfl⟩ : ∃ a c, vr = .slice a rounds.length c := hP.rounds.shape
  obtain ⟨c0, c1, c2, c3⟩ := hP.box
  dsimp only at c0 c1 c2 c3
  have hnn : (n : Int) < 3 := by omega
  by_cases hv : v = 3
  · have E2 : Hid (E = true) := by rw [HE.out, hv]; rfl
    have hv' : (v == 3) = true := by simp [hv]
    clear HE hv
    go_enter Tryz.func29, Tryz.ntmps29
    go_wp2
    go_ret
    exact ⟨by rw [E2.out]; rfl, Below.refl _ _⟩
  · have hv' : (v == 3) = false := by simpa using hv
    have HE2 : Hid (E = agr (rounds.map RoundQ.e) v) := by rw [HE.out, hv']; exact (rfl : _ = _)
    clear HE hv
    go_enter Tryz.func29, Tryz.ntmps29
    go_wp2
    clear c0 c1 c2 c3 dcell
    go_loopw [6] (fun j wr => ∃ k : Nat, k ≤ rounds.length ∧ j = .int .i64 k ∧ Hid (∀ j, j < k → cnt 7 ((rounds.map RoundQ.e).getD j rnd0).pro v < 2) ∧ Below w.heap.size w wr) (fun j _ => rounds.length - (intOf j).toNat)
    case atStart => exact ⟨0, Nat.zero_le _, rfl, fun j hj => absurd hj (Nat.not_lt_zero _), Below.refl _ _⟩
    case round =>
      obtain ⟨k, hk, rfl, HA, hb⟩ := hrel
      have hPr := hP.below hb
      obtain ⟨c0, c1, c2, c3⟩ := hPr.box
      dsimp only at c0 c1 c2 c3
      by_cases hlt : k < rounds.length
      · obtain ⟨rb, ro, rfl, hbs, hc, hrd⟩ := hPr.rounds.cell (by decide) k hlt
        have hc' : ∀ j x, (roundK.cells rounds[k])[j]? = some x → wr.cell? ⟨rb, ro + k * 2 + j, none⟩ = some x := hc
        have r1 := hc' 1 (rounds[k].vp) rfl
        have hv2 := (rndsF_at hF k (by rw [List.length_map]; exact hlt)).2
        have HY : Hid (2 ≤ cnt 7 rounds[k].pro v → E = true) := fun h => by
          rw [HE2.out]
          exact agr_at (k := k) (by rw [List.length_map]; exact hlt) (by rw [rnd_at rounds k hlt]; exact h)
        have HN : Hid (cnt 7 rounds[k].pro v < 2 → ∀ j, j < k + 1 → cnt 7 ((rounds.map RoundQ.e).getD j rnd0).pro v < 2) := by
          intro h j hj
          by_cases hjk : j = k
          · subst hjk
            rw [rnd_at rounds j hlt]
            exact h
          · exact HA.out j (by omega)
        rw [rnd_at rounds k hlt] at hv2
        have hv2 : vf rounds[k].pro 2 = 0 := hv2
        have hA2 : intK.At wr rounds[k].vp rounds[k].pro := hrd.2
        clear hc hc' hrd HA
        generalize rounds[k].vp = qw at *
        generalize rounds[k].pro = qp at *
        obtain ⟨pa, pc, pb, po, rfl, hpa, pcell, pRow⟩ := vf_row hA2 hv2 0 (by omega)
        subst hpa
        have hct := l5Count_any (some ⟨pb, po, none⟩) pc qp 7 v wr pRow (vf_len hv2) rfl
        generalize cnt 7 qp v = C at *
        clear hA2 hv2 pcell pRow
        go_wp2_with fail
        refine hct.mono ?_
        rintro e w2 ⟨rfl, hb2⟩
        replace hb := hb.trans (hb2.mono hb.size)
        clear hct c0 c1 c2 c3 r1 hb2 hPr
        by_cases hC : 2 ≤ C
        · have E2 : Hid (E = true) := HY.out hC
          clear HY HN HE2
          go_wp2
          go_ret
          exact ⟨by rw [E2.out]; rfl, hb⟩
        · have R := HN.out (by omega)
          have HR : Hid _ := R
          clear HY HN R
          go_wp2
          go_roundw
          case rel => exact ⟨k + 1, by omega, by go_num, HR.out, hb⟩
          case measure => simp [intOf]; omega
      · have hkl : k = rounds.length := by omega
        subst hkl
        have E2 : Hid (E = false) := by rw [HE2.out]; exact agr_none (by simpa using HA.out)
        clear HA HE2
        go_wp2
        go_ret
        exact ⟨by rw [E2.out]; rfl, hb⟩

theorem shp_zero {x : InstE} (h : shpF x = 0) : (1 ≤ x.rounds.length ∧ x.rounds.length ≤ 4) ∧ rndsF x.rounds = 0 ∧ vf x.dec 1 = 0 ∧ (x.has = false → x.batch = []) ∧ (x.has = true → batF x.batch = 0) := by
  unfold shpF at h
  by_cases h1 : x.has = false ∧ 0 < x.batch.length
  · rw [if_pos h1] at h
    simp at h
  rw [if_neg h1] at h
  by_cases h2 : x.has = true ∧ batF x.batch ≠ 0
  · rw [if_pos h2] at h
    exact absurd h h2.2
  rw [if_neg h2] at h
  by_cases h3 : x.rounds.length < 1 ∨ 4 < x.rounds.length
  · rw [if_pos h3] at h
    simp at h
  rw [if_neg h3] at h
  by_cases h4 : rndsF x.rounds = 0
  · rw [if_pos h4] at h
    refine ⟨by omega, h4, h, fun hh => ?_, fun hh => ?_⟩
    · cases hb : x.batch with
      | nil => rfl
      | cons _ _ => exact absurd ⟨hh, by rw [hb]; simp⟩ h1
    · by_cases hb : batF x.batch = 0
      · exact hb
      · exact absurd ⟨hh, hb⟩ h2
  · rw [if_neg h4] at h
    exact absurd h h4
theorem allM_no {has : Bool} {rs : List RoundE} {r n : Nat} (hr : r < rs.length) (hn : n < 3) (h : sayM has rs r n = false) : (List.range rs.length).all (allM has rs) = false := by
  rw [List.all_eq_false]
  refine ⟨r, List.mem_range.2 hr, ?_⟩
  intro e
  rw [(allM_iff has rs r).1 e n hn] at h
  exact absurd h (by decide)
theorem endA_iff (rs : List RoundE) (dec : List Int) : endA rs dec = true ↔ ∀ n, n < 3 → endR rs (dec.getD n 0) = true := by
  unfold endA
  simp only [Bool.and_eq_true]
  constructor
  · rintro ⟨⟨h0, h1⟩, h2⟩ n hn
    have : n = 0 ∨ n = 1 ∨ n = 2 := by omega
    rcases this with rfl | rfl | rfl
    · exact h0
    · exact h1
    · exact h2
  · intro h
    exact ⟨⟨h 0 (by omega), h 1 (by omega)⟩, h 2 (by omega)⟩
theorem insF_M {x : InstE} (h : shpF x = 0) : insF x = if rgtM x then 0 else 10 := by
  obtain ⟨h1, h2, h3, _⟩ := shp_zero h
  unfold insF
  rw [if_pos h, rgt_same h2 (by omega)]

set_option maxHeartbeats 4000000 in
theorem l6Fault_any (b o : Nat) (p : InstQ) (w : World) (hP : InstP w b o p) (hl : p.n ≤ 1048576) :
    Calls Tryz.prog 12 #[.pointer (some ⟨b, o, none⟩)] w fun e w' => e = .returned (.int .i64 (insF p.e)) ∧ Below w.heap.size w w' := by
  have hsh := l6Shape_any b o p w hP hl
  generalize hE : insF p.e = E
  have HE0 : Hid (E = insF p.e) := hE.symm
  clear hE
  go_enter Tryz.func12, Tryz.ntmps12
  go_wp2_with fail
  refine hsh.mono ?_
  rintro e w1 ⟨rfl, hb1⟩
  replace hP := hP.below hb1
  clear hsh
  by_cases h0 : shpF p.e = 0
  · obtain ⟨⟨h1, h4⟩, hF, hD, _, _⟩ := shp_zero h0
    have HE : Hid (E = if rgtM p.e then 0 else 10) := HE0.out.trans (insF_M h0)
    rw [h0]
    clear h0
    obtain ⟨has, vb, batch, vr, rounds, vd, dec⟩ := p
    replace hF : rndsF (rounds.map RoundQ.e) = 0 := hF
    replace hD : vf dec 1 = 0 := hD
    replace h1 : 1 ≤ (rounds.map RoundQ.e).length := h1
    replace h4 : (rounds.map RoundQ.e).length ≤ 4 := h4
    rw [List.length_map] at h1 h4
    have HE2 : Hid (E = if (has || !decide (0 < cnt 7 ((rounds.map RoundQ.e).getD 0 rnd0).rep 1)) && (List.range (rounds.map RoundQ.e).length).all (allM has (rounds.map RoundQ.e)) && endA (rounds.map RoundQ.e) dec then 0 else 10) := HE.out
    clear HE HE0
    have hsaid := fun r n w hP hr hn => l6Said_any b o ⟨has, vb, batch, vr, rounds, vd, dec⟩ r n w hP hr h4 hn hF
    have hend := fun n w hP hn => l6Ended_any b o ⟨has, vb, batch, vr, rounds, vd, dec⟩ n w hP h4 hn hF hD
    dsimp only at hsaid hend
    obtain ⟨ra, rk, rfl⟩ : ∃ a c, vr = .slice a rounds.length c := hP.rounds.shape
    obtain ⟨rb, ro, rfl, hbs, hc, hrd⟩ := hP.rounds.cell (by decide) 0 (show 0 < rounds.length by omega)
    have hc' : ∀ j x, (roundK.cells rounds[0])[j]? = some x → w1.cell? ⟨rb, ro + 0 * 2 + j, none⟩ = some x := hc
    have r0 := hc' 0 (rounds[0].vr) rfl
    have hv1 := (rndsF_at hF 0 (by rw [List.length_map]; omega)).1
    rw [rnd_at rounds 0 (by omega)] at hv1 HE2
    have hv1 : vf rounds[0].rep 1 = 0 := hv1
    have HE3 : Hid (E = if (has || !decide (0 < cnt 7 rounds[0].rep 1)) && (List.range (rounds.map RoundQ.e).length).all (allM has (rounds.map RoundQ.e)) && endA (rounds.map RoundQ.e) dec then 0 else 10) := HE2.out
    clear HE2
    have hA1 : intK.At w1 rounds[0].vr rounds[0].rep := hrd.1
    clear hc hc' hrd
    generalize rounds[0].vr = qv at *
    generalize rounds[0].rep = qr at *
    obtain ⟨xa, xc, xb, xo, rfl, hxa, xcell, xRow⟩ := vf_row hA1 hv1 0 (by omega)
    subst hxa
    have hct := l5Count_any (some ⟨xb, xo, none⟩) xc qr 7 1 w1 xRow (vf_len hv1) rfl
    clear xcell xRow hA1 hv1
    generalize cnt 7 qr 1 = C at *
    obtain ⟨c0, c1, c2, c3⟩ := hP.box
    dsimp only at c0 c1 c2 c3
    simp only [Nat.zero_mul, Nat.add_zero] at r0
    have h1' : (0 : Int) < rounds.length := by omega
    generalize hrs : rounds.map RoundQ.e = rs at *
    have hrl : rs.length = rounds.length := by rw [← hrs, List.length_map]
    rw [hrl] at HE3
    have HRL : Hid (rs.length = rounds.length) := hrl
    clear hrl
    cases has with
    | true =>
      have HE4 : Hid (E = if (List.range rounds.length).all (allM true rs) && endA rs dec then 0 else 10) := by rw [HE3.out, Bool.true_or, Bool.true_and]; exact (rfl : _ = _)
      have hB := hb1
      clear HE3 hct
      go_wp2
      clear c0 c1 c2 c3 r0
      go_loopw [4] (fun j wr => ∃ k : Nat, k ≤ rounds.length ∧ j = .int .i64 k ∧ Hid (∀ j, j < k → allM true rs j = true) ∧ Below w1.heap.size w1 wr) (fun j _ => rounds.length - (intOf j).toNat)
      case atStart => exact ⟨0, Nat.zero_le _, rfl, fun j hj => absurd hj (Nat.not_lt_zero _), Below.refl _ _⟩
      case round =>
        obtain ⟨k, hk, rfl, HA, hb⟩ := hrel
        have hPr := hP.below hb
        obtain ⟨c0, c1, c2, c3⟩ := hPr.box
        dsimp only at c0 c1 c2 c3
        by_cases hlt : k < rounds.length
        · go_wp2
          clear c0 c1 c2 c3
          go_loopw [5] (fun j wx => ∃ m : Nat, m ≤ 3 ∧ j = .int .i64 m ∧ Hid (∀ j, j < m → sayM true rs k j = true) ∧ Below w1.heap.size w1 wx) (fun j _ => 3 - (intOf j).toNat)
          case atStart => exact ⟨0, Nat.zero_le _, rfl, fun j hj => absurd hj (Nat.not_lt_zero _), hb⟩
          case round =>
            obtain ⟨m, hm, rfl, HB, hbx⟩ := hrel
            by_cases hm3 : m < 3
            · have hs := hsaid k m _ (hP.below hbx) hlt hm3
              have HY : Hid (sayM true rs k m = false → E = 10) := fun h => by rw [HE4.out, ← HRL.out, allM_no (by rw [HRL.out]; exact hlt) hm3 h]; rfl
              have HN : Hid (sayM true rs k m = true → ∀ j, j < m + 1 → sayM true rs k j = true) := fun h j hj => by
                by_cases hjm : j = m
                · subst hjm; exact h
                · exact HB.out j (by omega)
              clear HB
              generalize sayM true rs k m = X at *
              have hm3' : (m : Int) < 3 := by omega
              go_wp2_with fail
              refine hs.mono ?_
              rintro e w5 ⟨rfl, hb5⟩
              replace hbx := hbx.trans (hb5.mono hbx.size)
              clear hs hb5
              cases X with
              | false =>
                have E2 : Hid (E = 10) := HY.out rfl
                clear HY HN HE4
                go_wp2
                go_ret
                exact ⟨by rw [E2.out]; rfl, hB.trans (hbx.mono hB.size)⟩
              | true =>
                have R := HN.out rfl
                have HR : Hid _ := R
                clear HY HN R
                go_wp2
                go_roundw
                case rel => exact ⟨m + 1, by omega, by go_num, HR.out, hbx⟩
                case measure => simp [intOf]; omega
            · have hme : m = 3 := by omega
              subst hme
              have HR : Hid (∀ j, j < k + 1 → allM true rs j = true) := fun j hj => by
                by_cases hjk : j = k
                · subst hjk; exact (allM_iff true rs j).2 HB.out
                · exact HA.out j (by omega)
              clear HA HB
              go_wp2
              go_roundw
              case rel => exact ⟨k + 1, by omega, by go_num, HR.out, hbx⟩
              case measure => simp [intOf]; omega
        · have hkl : k = rounds.length := by omega
          subst hkl
          have HE5 : Hid (E = if endA rs dec then 0 else 10) := by
            have e : (List.range rounds.length).all (allM true rs) = true := by
              rw [List.all_eq_true]
              intro x hx
              exact HA.out x (List.mem_range.1 hx)
            rw [HE4.out, e]
            exact (rfl : _ = _)
          clear HA HE4
          go_wp2
          clear c0 c1 c2 c3
          go_loopw [6] (fun j wx => ∃ m : Nat, m ≤ 3 ∧ j = .int .i64 m ∧ Hid (∀ j, j < m → endR rs (dec.getD j 0) = true) ∧ Below w1.heap.size w1 wx) (fun j _ => 3 - (intOf j).toNat)
          case atStart => exact ⟨0, Nat.zero_le _, rfl, fun j hj => absurd hj (Nat.not_lt_zero _), hb⟩
          case round =>
            obtain ⟨m, hm, rfl, HB, hbx⟩ := hrel
            by_cases hm3 : m < 3
            · have hs := hend m _ (hP.below hbx) hm3
              have HY : Hid (endR rs (dec.getD m 0) = false → E = 10) := fun h => by
                have : endA rs dec = false := by
                  cases he : endA rs dec with
                  | false => rfl
                  | true =>
                    rw [(endA_iff rs dec).1 he m hm3] at h
                    exact absurd h (by decide)
                rw [HE5.out, this]; rfl
              have HN : Hid (endR rs (dec.getD m 0) = true → ∀ j, j < m + 1 → endR rs (dec.getD j 0) = true) := fun h j hj => by
                by_cases hjm : j = m
                · subst hjm; exact h
                · exact HB.out j (by omega)
              clear HB
              generalize endR rs (dec.getD m 0) = X at *
              have hm3' : (m : Int) < 3 := by omega
              go_wp2_with fail
              refine hs.mono ?_
              rintro e w5 ⟨rfl, hb5⟩
              replace hbx := hbx.trans (hb5.mono hbx.size)
              clear hs hb5
              cases X with
              | false =>
                have E2 : Hid (E = 10) := HY.out rfl
                clear HY HN HE5
                go_wp2
                go_ret
                exact ⟨by rw [E2.out]; rfl, hB.trans (hbx.mono hB.size)⟩
              | true =>
                have R := HN.out rfl
                have HR : Hid _ := R
                clear HY HN R
                go_wp2
                go_roundw
                case rel => exact ⟨m + 1, by omega, by go_num, HR.out, hbx⟩
                case measure => simp [intOf]; omega
            · have hme : m = 3 := by omega
              subst hme
              have E2 : Hid (E = 0) := by rw [HE5.out, (endA_iff rs dec).2 HB.out]; rfl
              clear HB HE5
              go_wp2
              go_ret
              exact ⟨by rw [E2.out]; rfl, hB.trans (hbx.mono hB.size)⟩
    | false =>
      go_wp2_with fail
      refine hct.mono ?_
      rintro e w2 ⟨rfl, hb2⟩
      replace hP := hP.below hb2
      have hB := hb1.trans (hb2.mono hb1.size)
      clear hct c0 c1 c2 c3 r0
      by_cases hC : 0 < C
      · have E2 : Hid (E = 10) := show _ = _ by rw [HE3.out]; simp [hC]
        clear HE3
        go_wp2
        go_ret
        exact ⟨by rw [E2.out]; rfl, hB⟩
      · have HE4 : Hid (E = if (List.range rounds.length).all (allM false rs) && endA rs dec then 0 else 10) := show _ = _ by rw [HE3.out]; simp [hC]
        clear HE3
        go_wp2
        go_loopw [4] (fun j wr => ∃ k : Nat, k ≤ rounds.length ∧ j = .int .i64 k ∧ Hid (∀ j, j < k → allM false rs j = true) ∧ Below w2.heap.size w2 wr) (fun j _ => rounds.length - (intOf j).toNat)
        case atStart => exact ⟨0, Nat.zero_le _, rfl, fun j hj => absurd hj (Nat.not_lt_zero _), Below.refl _ _⟩
        case round =>
          obtain ⟨k, hk, rfl, HA, hb⟩ := hrel
          have hPr := hP.below hb
          obtain ⟨c0, c1, c2, c3⟩ := hPr.box
          dsimp only at c0 c1 c2 c3
          by_cases hlt : k < rounds.length
          · go_wp2
            clear c0 c1 c2 c3
            go_loopw [5] (fun j wx => ∃ m : Nat, m ≤ 3 ∧ j = .int .i64 m ∧ Hid (∀ j, j < m → sayM false rs k j = true) ∧ Below w2.heap.size w2 wx) (fun j _ => 3 - (intOf j).toNat)
            case atStart => exact ⟨0, Nat.zero_le _, rfl, fun j hj => absurd hj (Nat.not_lt_zero _), hb⟩
            case round =>
              obtain ⟨m, hm, rfl, HB, hbx⟩ := hrel
              by_cases hm3 : m < 3
              · have hs := hsaid k m _ (hP.below hbx) hlt hm3
                have HY : Hid (sayM false rs k m = false → E = 10) := fun h => by rw [HE4.out, ← HRL.out, allM_no (by rw [HRL.out]; exact hlt) hm3 h]; rfl
                have HN : Hid (sayM false rs k m = true → ∀ j, j < m + 1 → sayM false rs k j = true) := fun h j hj => by
                  by_cases hjm : j = m
                  · subst hjm; exact h
                  · exact HB.out j (by omega)
                clear HB
                generalize sayM false rs k m = X at *
                have hm3' : (m : Int) < 3 := by omega
                go_wp2_with fail
                refine hs.mono ?_
                rintro e w5 ⟨rfl, hb5⟩
                replace hbx := hbx.trans (hb5.mono hbx.size)
                clear hs hb5
                cases X with
                | false =>
                  have E2 : Hid (E = 10) := HY.out rfl
                  clear HY HN HE4
                  go_wp2
                  go_ret
                  exact ⟨by rw [E2.out]; rfl, hB.trans (hbx.mono hB.size)⟩
                | true =>
                  have R := HN.out rfl
                  have HR : Hid _ := R
                  clear HY HN R
                  go_wp2
                  go_roundw
                  case rel => exact ⟨m + 1, by omega, by go_num, HR.out, hbx⟩
                  case measure => simp [intOf]; omega
              · have hme : m = 3 := by omega
                subst hme
                have HR : Hid (∀ j, j < k + 1 → allM false rs j = true) := fun j hj => by
                  by_cases hjk : j = k
                  · subst hjk; exact (allM_iff false rs j).2 HB.out
                  · exact HA.out j (by omega)
                clear HA HB
                go_wp2
                go_roundw
                case rel => exact ⟨k + 1, by omega, by go_num, HR.out, hbx⟩
                case measure => simp [intOf]; omega
          · have hkl : k = rounds.length := by omega
            subst hkl
            have HE5 : Hid (E = if endA rs dec then 0 else 10) := by
              have e : (List.range rounds.length).all (allM false rs) = true := by
                rw [List.all_eq_true]
                intro x hx
                exact HA.out x (List.mem_range.1 hx)
              rw [HE4.out, e]
              exact (rfl : _ = _)
            clear HA HE4
            go_wp2
            clear c0 c1 c2 c3
            go_loopw [6] (fun j wx => ∃ m : Nat, m ≤ 3 ∧ j = .int .i64 m ∧ Hid (∀ j, j < m → endR rs (dec.getD j 0) = true) ∧ Below w2.heap.size w2 wx) (fun j _ => 3 - (intOf j).toNat)
            case atStart => exact ⟨0, Nat.zero_le _, rfl, fun j hj => absurd hj (Nat.not_lt_zero _), hb⟩
            case round =>
              obtain ⟨m, hm, rfl, HB, hbx⟩ := hrel
              by_cases hm3 : m < 3
              · have hs := hend m _ (hP.below hbx) hm3
                have HY : Hid (endR rs (dec.getD m 0) = false → E = 10) := fun h => by
                  have : endA rs dec = false := by
                    cases he : endA rs dec with
                    | false => rfl
                    | true =>
                      rw [(endA_iff rs dec).1 he m hm3] at h
                      exact absurd h (by decide)
                  rw [HE5.out, this]; rfl
                have HN : Hid (endR rs (dec.getD m 0) = true → ∀ j, j < m + 1 → endR rs (dec.getD j 0) = true) := fun h j hj => by
                  by_cases hjm : j = m
                  · subst hjm; exact h
                  · exact HB.out j (by omega)
                clear HB
                generalize endR rs (dec.getD m 0) = X at *
                have hm3' : (m : Int) < 3 := by omega
                go_wp2_with fail
                refine hs.mono ?_
                rintro e w5 ⟨rfl, hb5⟩
                replace hbx := hbx.trans (hb5.mono hbx.size)
                clear hs hb5
                cases X with
                | false =>
                  have E2 : Hid (E = 10) := HY.out rfl
                  clear HY HN HE5
                  go_wp2
                  go_ret
                  exact ⟨by rw [E2.out]; rfl, hB.trans (hbx.mono hB.size)⟩
                | true =>
                  have R := HN.out rfl
                  have HR : Hid _ := R
                  clear HY HN R
                  go_wp2
                  go_roundw
                  case rel => exact ⟨m + 1, by omega, by go_num, HR.out, hbx⟩
                  case measure => simp [intOf]; omega
              · have hme : m = 3 := by omega
                subst hme
                have E2 : Hid (E = 0) := by rw [HE5.out, (endA_iff rs dec).2 HB.out]; rfl
                clear HB HE5
                go_wp2
                go_ret
                exact ⟨by rw [E2.out]; rfl, hB.trans (hbx.mono hB.size)⟩
  · have E2 : Hid (E = shpF p.e) := HE0.out.trans (if_neg h0)
    have h0' : (shpF p.e != 0) = true := by simpa using h0
    clear HE0
    generalize shpF p.e = r at *
    clear h0
    go_wp2
    go_ret
    exact ⟨by rw [E2.out]; rfl, hb1⟩

end Go.Proofs.YtmlkfmjenkcflaaGreatDoor

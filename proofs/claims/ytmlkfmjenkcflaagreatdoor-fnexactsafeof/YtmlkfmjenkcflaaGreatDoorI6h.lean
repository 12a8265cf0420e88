/- The fault of an instance's form, of the program. -/
import Derived.Test.YtmlkfmjenkcflaaGreatDoorI6s
import Derived.Test.YtmlkfmjenkcflaaGreatDoorM6b
namespace Go.Proofs.YtmlkfmjenkcflaaGreatDoor
open Go.RowKit
open Go.BigFrame
set_option linter.unusedVariables false
set_option maxRecDepth 100000
set_option linter.unusedSimpArgs false

set_option maxHeartbeats 4000000 in
theorem formFault_any (p : InstQ) (w : World) (h : instK.rd w p) (hl : p.n ≤ 1048576) :
    Calls Tryz.prog 44 #[.agg #[.bool p.has, p.vb, p.vr, p.vd]] w fun e w' => e = .returned (.int .i64 (shpF p.e)) ∧ Below w.heap.size w w' := by
  obtain ⟨has, vb, batch, vr, rounds, vd, dec⟩ := p
  dsimp only [InstQ.n] at hl
  have HE : Hid (shpF (InstQ.e ⟨has, vb, batch, vr, rounds, vd, dec⟩) = if has = false ∧ 0 < (batch.map TxnQ.e).length then 1 else
    if has = true ∧ batF (batch.map TxnQ.e) ≠ 0 then batF (batch.map TxnQ.e) else
    if (rounds.map RoundQ.e).length < 1 ∨ 4 < (rounds.map RoundQ.e).length then 2 else
    if rndsF (rounds.map RoundQ.e) = 0 then vf dec 1 else rndsF (rounds.map RoundQ.e)) := by
    exact (rfl : shpF _ = _)
  generalize shpF (InstQ.e ⟨has, vb, batch, vr, rounds, vd, dec⟩) = E at HE ⊢
  obtain ⟨hT, hR, hD⟩ : txnK.At w vb batch ∧ roundK.At w vr rounds ∧ intK.At w vd dec := h
  obtain ⟨ba, bk, rfl⟩ := hT.shape
  obtain ⟨va, vk, rfl⟩ := hR.shape
  obtain ⟨da, dk, rfl⟩ := hD.shape
  have hv := fun w h => batchFault_any (.slice ba batch.length bk) (batch.map TxnQ.e) w h (by rw [List.length_map, sumA_of]; omega)
  have hB : Below w.heap.size w (w.alloc (.cells #[.bool has, .slice ba batch.length bk, .slice va rounds.length vk, .slice da dec.length dk] 32)) := by go_grown
  have Bx := Blk.new w 32 #[.bool has, .slice ba batch.length bk, .slice va rounds.length vk, .slice da dec.length dk]
  replace hT := hT.below hB
  replace hR := hR.below hB
  replace hD := hD.below hB
  cases has with
  | false =>
    by_cases h0 : 0 < batch.length
    · have E1 : Hid (E = 1) := by rw [HE.out, if_pos ⟨rfl, by simpa using h0⟩]; rfl
      clear HE hv
      go_enter Tryz.func44, Tryz.ntmps44
      go_wp2
      go_ret
      exact ⟨by rw [E1.out]; rfl, hB⟩
    · have HS : Hid (E = if (rounds.map RoundQ.e).length < 1 ∨ 4 < (rounds.map RoundQ.e).length then 2 else if rndsF (rounds.map RoundQ.e) = 0 then vf dec 1 else rndsF (rounds.map RoundQ.e)) := by
        have := HE.out
        rw [if_neg (fun h => h0 (by simpa using h.2)), if_neg (by simp)] at this
        exact this
      clear HE hv
      have h0' : ¬ (0 : Int) < batch.length := by omega
      go_enter Tryz.func44, Tryz.ntmps44
      by_cases hr1 : rounds.length < 1
      · have E2 : Hid (E = 2) := by rw [HS.out, if_pos (Or.inl (by simpa using hr1))]; rfl
        clear HS
        go_wp2
        go_ret
        exact ⟨by rw [E2.out]; rfl, hB⟩
      · by_cases hr4 : 4 < rounds.length
        · have E2 : Hid (E = 2) := by rw [HS.out, if_pos (Or.inr (by simpa using hr4))]; rfl
          clear HS
          go_wp2
          go_ret
          exact ⟨by rw [E2.out]; rfl, hB⟩
        · have HS2 : Hid (E = if rndsF (rounds.map RoundQ.e) = 0 then vf dec 1 else rndsF (rounds.map RoundQ.e)) := by
            have := HS.out
            rw [if_neg (by simp only [List.length_map]; omega)] at this
            exact this
          have hr1' : ¬ (rounds.length : Int) < 1 := by omega
          have hr4' : ¬ (4 : Int) < rounds.length := by omega
          clear HS hr1 hr4
          go_wp2
          generalize (w.alloc (.cells #[.bool false, .slice ba batch.length bk, .slice va rounds.length vk, .slice da dec.length dk] 32)) = W at *
          go_loopw [38] (fun j wr => ∃ k : Nat, k ≤ rounds.length ∧ j = .int .i64 k ∧ Hid (∀ j, j < k → vf ((rounds.map RoundQ.e).getD j rnd0).rep 1 = 0 ∧ vf ((rounds.map RoundQ.e).getD j rnd0).pro 2 = 0) ∧ Below W.heap.size W wr) (fun j _ => rounds.length - (intOf j).toNat)
          case atStart => exact ⟨0, Nat.zero_le _, rfl, fun j hj => absurd hj (Nat.not_lt_zero _), Below.refl _ _⟩
          case round =>
            obtain ⟨k, hk, rfl, HA, hb⟩ := hrel
            have hBr := hB.trans (hb.mono hB.size)
            by_cases hlt : k < rounds.length
            · obtain ⟨rb, ro, rfl, hbs, hc, hrd⟩ := (hR.below hb).cell (by decide) k hlt
              have hc' : ∀ j x, (roundK.cells rounds[k])[j]? = some x → wr.cell? ⟨rb, ro + k * 2 + j, none⟩ = some x := hc
              have r0 := hc' 0 (rounds[k].vr) rfl
              have r1 := hc' 1 (rounds[k].vp) rfl
              have hnm := nmR_le rounds k hlt
              have hfst := rndsF_first (rounds.map RoundQ.e) k HA.out (by simpa using hlt)
              rw [rnd_at rounds k hlt] at hfst
              dsimp only [RoundQ.e] at hfst
              have HF1 : Hid (vf rounds[k].rep 1 ≠ 0 → E = vf rounds[k].rep 1) := fun h => by rw [HS2.out, hfst.1 h, if_neg h]
              have HF2 : Hid (vf rounds[k].rep 1 = 0 → vf rounds[k].pro 2 ≠ 0 → E = vf rounds[k].pro 2) := fun h h2 => by rw [HS2.out, hfst.2 h h2, if_neg h2]
              have HN : Hid (vf rounds[k].rep 1 = 0 → vf rounds[k].pro 2 = 0 → ∀ j, j < k + 1 → vf ((rounds.map RoundQ.e).getD j rnd0).rep 1 = 0 ∧ vf ((rounds.map RoundQ.e).getD j rnd0).pro 2 = 0) := by
                intro h1 h2 j hj
                by_cases hjk : j = k
                · subst hjk
                  rw [rnd_at rounds j hlt]
                  exact ⟨h1, h2⟩
                · exact HA.out j (by omega)
              clear HA hfst hc hc'
              generalize rounds[k] = q at *
              obtain ⟨qv, qr, qw, qp⟩ := q
              obtain ⟨rA, rP⟩ : intK.At wr qv qr ∧ intK.At wr qw qp := hrd
              dsimp only at *
              obtain ⟨ra, rk, rfl⟩ := rA.shape
              obtain ⟨pa, pk, rfl⟩ := rP.shape
              have hbn : Below wr.heap.size wr (wr.alloc (.cells #[.slice ra qr.length rk, .slice pa qp.length pk] 43)) := by go_grown
              have hBn := hb.alloc hb.size (.cells #[.slice ra qr.length rk, .slice pa qp.length pk] 43)
              have hBr := hBr.alloc hBr.size (.cells #[.slice ra qr.length rk, .slice pa qp.length pk] 43)
              have Bx := Blk.new wr 43 #[.slice ra qr.length rk, .slice pa qp.length pk]
              have hv1 := votesFault_any ra rk qr 1 _ (intK_at (rA.below hbn)).2 (by omega)
              have hv2 := votesFault_any pa pk qp 2 _ (intK_at (rP.below hbn)).2 (by omega)
              rw [vfa1] at hv1
              rw [vfa2] at hv2
              rw [Nat.add_zero] at r0
              clear rA rP hbn
              go_wp2_with fail
              generalize wr.alloc (.cells #[.slice ra qr.length rk, .slice pa qp.length pk] 43) = X at *
              refine hv1.mono ?_
              rintro e w2 ⟨rfl, hw⟩
              replace hw := hw.symm
              subst hw
              clear hv1 r0 r1
              by_cases h1 : vf qr 1 = 0
              · have HF : Hid (vf qp 2 ≠ 0 → E = vf qp 2) := HF2.out h1
                have HM : Hid (vf qp 2 = 0 → _) := HN.out h1
                rw [h1]
                clear HF1 HF2 HN h1
                have p1 := Bx.cell 1 _ rfl
                go_wp2_with fail
                refine hv2.mono ?_
                rintro e w2 ⟨rfl, hw⟩
                replace hw := hw.symm
                subst hw
                clear hv2 p1 Bx
                by_cases h2 : vf qp 2 = 0
                · have R := HM.out h2
                  have HR : Hid _ := R
                  rw [h2]
                  clear HF HM R h2
                  go_wp2
                  go_roundw
                  case rel => exact ⟨k + 1, by omega, by go_num, HR.out, hBn⟩
                  case measure => simp [intOf]; omega
                · have E2 : Hid (E = vf qp 2) := HF.out h2
                  have h2' : (vf qp 2 != 0) = true := by simpa using h2
                  clear HF HM h2
                  generalize vf qp 2 = r at *
                  go_wp2
                  go_ret
                  exact ⟨by rw [E2.out]; rfl, hBr⟩
              · have E2 : Hid (E = vf qr 1) := HF1.out h1
                have h1' : (vf qr 1 != 0) = true := by simpa using h1
                clear HF1 HF2 HN h1 hv2
                generalize vf qr 1 = r at *
                go_wp2
                go_ret
                exact ⟨by rw [E2.out]; rfl, hBr⟩
            · have hkl : k = rounds.length := by omega
              subst hkl
              have E2 : Hid (E = vf dec 1) := by
                have := HS2.out
                rw [if_pos (rndsF_none _ (by simpa using HA.out))] at this
                exact this
              have Br := Bx.below hb
              have c3 := Br.cell 3 _ rfl
              have hv1 := votesFault_any da dk dec 1 wr (intK_at (hD.below hb)).2 (by omega)
              rw [vfa1] at hv1
              clear HA HS2
              go_wp2_with fail
              refine hv1.mono ?_
              rintro e w2 ⟨rfl, hw⟩
              replace hw := hw.symm
              subst hw
              generalize vf dec 1 = r at *
              clear hv1 c3
              go_wp2
              go_ret
              exact ⟨by rw [E2.out]; rfl, hBr⟩
  | true =>
    go_enter Tryz.func44, Tryz.ntmps44
    go_wp2_with fail
    generalize w.alloc (.cells #[.bool true, .slice ba batch.length bk, .slice va rounds.length vk, .slice da dec.length dk] 32) = W at *
    refine (hv W (txnsAt_of hT)).mono ?_
    rintro e w1 ⟨rfl, hb1⟩
    replace hR := hR.below hb1
    replace hD := hD.below hb1
    replace Bx := Bx.below hb1
    replace hB := hB.trans (hb1.mono hB.size)
    clear hv hb1 hT
    by_cases h1 : batF (batch.map TxnQ.e) = 0
    · have HS : Hid (E = if (rounds.map RoundQ.e).length < 1 ∨ 4 < (rounds.map RoundQ.e).length then 2 else if rndsF (rounds.map RoundQ.e) = 0 then vf dec 1 else rndsF (rounds.map RoundQ.e)) := by
        have := HE.out
        rw [if_neg (by simp), if_neg (fun h => h.2 h1)] at this
        exact this
      rw [h1]
      clear HE h1
      by_cases hr1 : rounds.length < 1
      · have E2 : Hid (E = 2) := by rw [HS.out, if_pos (Or.inl (by simpa using hr1))]; rfl
        clear HS
        obtain ⟨c0, c1, c2⟩ := Bx.cel3
        go_wp2
        go_ret
        exact ⟨by rw [E2.out]; rfl, hB⟩
      · by_cases hr4 : 4 < rounds.length
        · have E2 : Hid (E = 2) := by rw [HS.out, if_pos (Or.inr (by simpa using hr4))]; rfl
          clear HS
          obtain ⟨c0, c1, c2⟩ := Bx.cel3
          go_wp2
          go_ret
          exact ⟨by rw [E2.out]; rfl, hB⟩
        · have HS2 : Hid (E = if rndsF (rounds.map RoundQ.e) = 0 then vf dec 1 else rndsF (rounds.map RoundQ.e)) := by
            have := HS.out
            rw [if_neg (by simp only [List.length_map]; omega)] at this
            exact this
          have hr1' : ¬ (rounds.length : Int) < 1 := by omega
          have hr4' : ¬ (4 : Int) < rounds.length := by omega
          clear HS hr1 hr4
          obtain ⟨c0, c1, c2⟩ := Bx.cel3
          go_wp2
          clear c0 c1 c2
          go_loopw [38] (fun j wr => ∃ k : Nat, k ≤ rounds.length ∧ j = .int .i64 k ∧ Hid (∀ j, j < k → vf ((rounds.map RoundQ.e).getD j rnd0).rep 1 = 0 ∧ vf ((rounds.map RoundQ.e).getD j rnd0).pro 2 = 0) ∧ Below w1.heap.size w1 wr) (fun j _ => rounds.length - (intOf j).toNat)
          case atStart => exact ⟨0, Nat.zero_le _, rfl, fun j hj => absurd hj (Nat.not_lt_zero _), Below.refl _ _⟩
          case round =>
            obtain ⟨k, hk, rfl, HA, hb⟩ := hrel
            have hBr := hB.trans (hb.mono hB.size)
            by_cases hlt : k < rounds.length
            · obtain ⟨rb, ro, rfl, hbs, hc, hrd⟩ := (hR.below hb).cell (by decide) k hlt
              have hc' : ∀ j x, (roundK.cells rounds[k])[j]? = some x → wr.cell? ⟨rb, ro + k * 2 + j, none⟩ = some x := hc
              have r0 := hc' 0 (rounds[k].vr) rfl
              have r1 := hc' 1 (rounds[k].vp) rfl
              have hnm := nmR_le rounds k hlt
              have hfst := rndsF_first (rounds.map RoundQ.e) k HA.out (by simpa using hlt)
              rw [rnd_at rounds k hlt] at hfst
              dsimp only [RoundQ.e] at hfst
              have HF1 : Hid (vf rounds[k].rep 1 ≠ 0 → E = vf rounds[k].rep 1) := fun h => by rw [HS2.out, hfst.1 h, if_neg h]
              have HF2 : Hid (vf rounds[k].rep 1 = 0 → vf rounds[k].pro 2 ≠ 0 → E = vf rounds[k].pro 2) := fun h h2 => by rw [HS2.out, hfst.2 h h2, if_neg h2]
              have HN : Hid (vf rounds[k].rep 1 = 0 → vf rounds[k].pro 2 = 0 → ∀ j, j < k + 1 → vf ((rounds.map RoundQ.e).getD j rnd0).rep 1 = 0 ∧ vf ((rounds.map RoundQ.e).getD j rnd0).pro 2 = 0) := by
                intro h1 h2 j hj
                by_cases hjk : j = k
                · subst hjk
                  rw [rnd_at rounds j hlt]
                  exact ⟨h1, h2⟩
                · exact HA.out j (by omega)
              clear HA hfst hc hc'
              generalize rounds[k] = q at *
              obtain ⟨qv, qr, qw, qp⟩ := q
              obtain ⟨rA, rP⟩ : intK.At wr qv qr ∧ intK.At wr qw qp := hrd
              dsimp only at *
              obtain ⟨ra, rk, rfl⟩ := rA.shape
              obtain ⟨pa, pk, rfl⟩ := rP.shape
              have hbn : Below wr.heap.size wr (wr.alloc (.cells #[.slice ra qr.length rk, .slice pa qp.length pk] 43)) := by go_grown
              have hBn := hb.alloc hb.size (.cells #[.slice ra qr.length rk, .slice pa qp.length pk] 43)
              have hBr := hBr.alloc hBr.size (.cells #[.slice ra qr.length rk, .slice pa qp.length pk] 43)
              have Bx := Blk.new wr 43 #[.slice ra qr.length rk, .slice pa qp.length pk]
              have hv1 := votesFault_any ra rk qr 1 _ (intK_at (rA.below hbn)).2 (by omega)
              have hv2 := votesFault_any pa pk qp 2 _ (intK_at (rP.below hbn)).2 (by omega)
              rw [vfa1] at hv1
              rw [vfa2] at hv2
              rw [Nat.add_zero] at r0
              clear rA rP hbn
              go_wp2_with fail
              generalize wr.alloc (.cells #[.slice ra qr.length rk, .slice pa qp.length pk] 43) = X at *
              refine hv1.mono ?_
              rintro e w2 ⟨rfl, hw⟩
              replace hw := hw.symm
              subst hw
              clear hv1 r0 r1
              by_cases h1 : vf qr 1 = 0
              · have HF : Hid (vf qp 2 ≠ 0 → E = vf qp 2) := HF2.out h1
                have HM : Hid (vf qp 2 = 0 → _) := HN.out h1
                rw [h1]
                clear HF1 HF2 HN h1
                have p1 := Bx.cell 1 _ rfl
                go_wp2_with fail
                refine hv2.mono ?_
                rintro e w2 ⟨rfl, hw⟩
                replace hw := hw.symm
                subst hw
                clear hv2 p1 Bx
                by_cases h2 : vf qp 2 = 0
                · have R := HM.out h2
                  have HR : Hid _ := R
                  rw [h2]
                  clear HF HM R h2
                  go_wp2
                  go_roundw
                  case rel => exact ⟨k + 1, by omega, by go_num, HR.out, hBn⟩
                  case measure => simp [intOf]; omega
                · have E2 : Hid (E = vf qp 2) := HF.out h2
                  have h2' : (vf qp 2 != 0) = true := by simpa using h2
                  clear HF HM h2
                  generalize vf qp 2 = r at *
                  go_wp2
                  go_ret
                  exact ⟨by rw [E2.out]; rfl, hBr⟩
              · have E2 : Hid (E = vf qr 1) := HF1.out h1
                have h1' : (vf qr 1 != 0) = true := by simpa using h1
                clear HF1 HF2 HN h1 hv2
                generalize vf qr 1 = r at *
                go_wp2
                go_ret
                exact ⟨by rw [E2.out]; rfl, hBr⟩
            · have hkl : k = rounds.length := by omega
              subst hkl
              have E2 : Hid (E = vf dec 1) := by
                have := HS2.out
                rw [if_pos (rndsF_none _ (by simpa using HA.out))] at this
                exact this
              have Br := Bx.below hb
              have c3 := Br.cell 3 _ rfl
              have hv1 := votesFault_any da dk dec 1 wr (intK_at (hD.below hb)).2 (by omega)
              rw [vfa1] at hv1
              clear HA HS2
              go_wp2_with fail
              refine hv1.mono ?_
              rintro e w2 ⟨rfl, hw⟩
              replace hw := hw.symm
              subst hw
              generalize vf dec 1 = r at *
              clear hv1 c3
              go_wp2
              go_ret
              exact ⟨by rw [E2.out]; rfl, hBr⟩
    · have E1 : Hid (E = batF (batch.map TxnQ.e)) := by
        have := HE.out
        rw [if_neg (by simp), if_pos ⟨by simp, h1⟩] at this
        exact this
      have h1' : (batF (batch.map TxnQ.e) != 0) = true := by simpa using h1
      clear HE h1
      generalize batF (batch.map TxnQ.e) = r at *
      go_wp2
      go_ret
      exact ⟨by rw [E1.out]; rfl, hB⟩

end Go.Proofs.YtmlkfmjenkcflaaGreatDoor

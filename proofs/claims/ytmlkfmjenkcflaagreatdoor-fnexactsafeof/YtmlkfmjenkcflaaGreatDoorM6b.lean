/- Whether an instance is right, of the model: its form; what a node said in a round; what was decided. -/
import Derived.Test.YtmlkfmjenkcflaaGreatDoorM6a
namespace Go.Proofs.YtmlkfmjenkcflaaGreatDoor
open Go.RowKit
open Go.BigFrame
set_option linter.unusedVariables false
set_option maxRecDepth 100000
set_option linter.unusedSimpArgs false

/-- A pointer to an instance. -/
structure InstP (w : World) (b o : Nat) (p : InstQ) : Prop where
  box : Box4 w b o (.bool p.has) p.vb p.vr p.vd
  rd : instK.rd w p
theorem InstP.below {w w' : World} {b o : Nat} {p : InstQ} (h : InstP w b o p) (hb : Below w.heap.size w w') : InstP w' b o p := ⟨h.box.below hb, instK.rd_below h.rd hb⟩
theorem InstP.batch {w : World} {b o : Nat} {p : InstQ} (h : InstP w b o p) : txnK.At w p.vb p.batch := h.rd.1
theorem InstP.rounds {w : World} {b o : Nat} {p : InstQ} (h : InstP w b o p) : roundK.At w p.vr p.rounds := h.rd.2.1
theorem InstP.dec {w : World} {b o : Nat} {p : InstQ} (h : InstP w b o p) : intK.At w p.vd p.dec := h.rd.2.2
theorem rnd_at (rs : List RoundQ) (r : Nat) (hr : r < rs.length) : (rs.map RoundQ.e).getD r rnd0 = RoundQ.e rs[r] := by simp [List.getD, hr]
theorem nmR_le (rs : List RoundQ) (r : Nat) (hr : r < rs.length) : rs[r].rep.length + rs[r].pro.length ≤ nmL RoundQ.n rs := nm_le RoundQ.n rs r hr

theorem rndsF_first (ds : List RoundE) : ∀ k, (∀ j, j < k → vf (ds.getD j rnd0).rep 1 = 0 ∧ vf (ds.getD j rnd0).pro 2 = 0) → k < ds.length → (vf (ds.getD k rnd0).rep 1 ≠ 0 → rndsF ds = vf (ds.getD k rnd0).rep 1) ∧ (vf (ds.getD k rnd0).rep 1 = 0 → vf (ds.getD k rnd0).pro 2 ≠ 0 → rndsF ds = vf (ds.getD k rnd0).pro 2) := by
  induction ds with
  | nil => intro k _ h; simp at h
  | cons x r ih =>
    intro k h0 hk
    cases k with
    | zero =>
      simp only [List.getD_cons_zero]
      unfold rndsF
      exact ⟨fun h => by rw [if_neg h], fun h h2 => by rw [if_pos h, if_neg h2]⟩
    | succ k =>
      have hx := h0 0 (by omega)
      simp only [List.getD_cons_zero] at hx
      have := ih k (fun j hj => by simpa using h0 (j + 1) (by omega)) (by simpa using hk)
      simp only [List.getD_cons_succ]
      rw [show rndsF (x :: r) = rndsF r by rw [rndsF, if_pos hx.1, if_pos hx.2]]
      exact this
theorem rndsF_none (ds : List RoundE) (h : ∀ j, j < ds.length → vf (ds.getD j rnd0).rep 1 = 0 ∧ vf (ds.getD j rnd0).pro 2 = 0) : rndsF ds = 0 := by
  induction ds with
  | nil => rfl
  | cons x r ih =>
    have hx := h 0 (by simp)
    simp only [List.getD_cons_zero] at hx
    rw [rndsF, if_pos hx.1, if_pos hx.2]
    exact ih (fun j hj => by simpa using h (j + 1) (by simpa using hj))

set_option maxHeartbeats 4000000 in
theorem l6Shape_any (b o : Nat) (p : InstQ) (w : World) (hP : InstP w b o p) (hl : p.n ≤ 1048576) :
    Calls Tryz.prog 26 #[.pointer (some ⟨b, o, none⟩)] w fun e w' => e = .returned (.int .i64 (shpF p.e)) ∧ Below w.heap.size w w' := by
  have hB : Below w.heap.size w w := Below.refl _ _
  obtain ⟨has, vb, batch, vr, rounds, vd, dec⟩ := p
  dsimp only [InstQ.n] at hl
  have HE : Hid (shpF (InstQ.e ⟨has, vb, batch, vr, rounds, vd, dec⟩) = if has = false ∧ 0 < (batch.map TxnQ.e).length then 1 else
    if has = true ∧ batF (batch.map TxnQ.e) ≠ 0 then batF (batch.map TxnQ.e) else
    if (rounds.map RoundQ.e).length < 1 ∨ 4 < (rounds.map RoundQ.e).length then 2 else
    if rndsF (rounds.map RoundQ.e) = 0 then vf dec 1 else rndsF (rounds.map RoundQ.e)) := by
    exact (rfl : shpF _ = _)
  generalize shpF (InstQ.e ⟨has, vb, batch, vr, rounds, vd, dec⟩) = E at HE ⊢
  have hv := l6Batch_any vb (batch.map TxnQ.e) w (txnsAt_of hP.batch) (by rw [List.length_map, sumA_of]; omega)
  have hsb : ∃ a c, vb = .slice a batch.length c := hP.batch.shape
  have hsr : ∃ a c, vr = .slice a rounds.length c := hP.rounds.shape
  have hsd : ∃ a c, vd = .slice a dec.length c := hP.dec.shape
  obtain ⟨ba, bk, rfl⟩ := hsb
  obtain ⟨va, vk, rfl⟩ := hsr
  cases has with
  | false =>
    by_cases h0 : 0 < batch.length
    · have E1 : Hid (E = 1) := by rw [HE.out, if_pos ⟨rfl, by simpa using h0⟩]; rfl
      obtain ⟨c0, c1, c2, c3⟩ := hP.box
      dsimp only at c0 c1 c2 c3
      clear HE hv
      go_enter Tryz.func26, Tryz.ntmps26
      go_wp2
      go_ret
      exact ⟨by rw [E1.out]; rfl, hB⟩
    · have HS : Hid (E = if (rounds.map RoundQ.e).length < 1 ∨ 4 < (rounds.map RoundQ.e).length then 2 else if rndsF (rounds.map RoundQ.e) = 0 then vf dec 1 else rndsF (rounds.map RoundQ.e)) := by
        have := HE.out
        rw [if_neg (fun h => h0 (by simpa using h.2)), if_neg (by simp)] at this
        exact this
      clear HE
      obtain ⟨c0, c1, c2, c3⟩ := hP.box
      dsimp only at c0 c1 c2 c3
      have h0' : ¬ (0 : Int) < batch.length := by omega
      go_enter Tryz.func26, Tryz.ntmps26
      clear c0 c1 c2 c3
      by_cases hr1 : rounds.length < 1
      · have E2 : Hid (E = 2) := by rw [HS.out, if_pos (Or.inl (by simpa using hr1))]; rfl
        obtain ⟨c0, c1, c2, c3⟩ := hP.box
        dsimp only at c0 c1 c2 c3
        clear HS hv
        go_wp2
        go_ret
        exact ⟨by rw [E2.out]; rfl, hB⟩
      · by_cases hr4 : 4 < rounds.length
        · have E2 : Hid (E = 2) := by rw [HS.out, if_pos (Or.inr (by simpa using hr4))]; rfl
          obtain ⟨c0, c1, c2, c3⟩ := hP.box
          dsimp only at c0 c1 c2 c3
          clear HS hv
          go_wp2
          go_ret
          exact ⟨by rw [E2.out]; rfl, hB⟩
        · have HS2 : Hid (E = if rndsF (rounds.map RoundQ.e) = 0 then vf dec 1 else rndsF (rounds.map RoundQ.e)) := by
            have := HS.out
            rw [if_neg (by simp only [List.length_map]; omega)] at this
            exact this
          have hr1' : ¬ (rounds.length : Int) < 1 := by omega
          have hr4' : ¬ (4 : Int) < rounds.length := by omega
          clear HS hr1 hr4
          obtain ⟨c0, c1, c2, c3⟩ := hP.box
          dsimp only at c0 c1 c2 c3
          go_wp2
          clear c0 c1 c2 c3
          go_loopw [4] (fun j wr => ∃ k : Nat, k ≤ rounds.length ∧ j = .int .i64 k ∧ Hid (∀ j, j < k → vf ((rounds.map RoundQ.e).getD j rnd0).rep 1 = 0 ∧ vf ((rounds.map RoundQ.e).getD j rnd0).pro 2 = 0) ∧ Below w.heap.size w wr) (fun j _ => rounds.length - (intOf j).toNat)
          case atStart => exact ⟨0, Nat.zero_le _, rfl, fun j hj => absurd hj (Nat.not_lt_zero _), Below.refl _ _⟩
          case round =>
            obtain ⟨k, hk, rfl, HA, hb⟩ := hrel
            have hPr := hP.below hb
            have hBr := hB.trans (hb.mono hB.size)
            obtain ⟨c0, c1, c2, c3⟩ := hPr.box
            dsimp only at c0 c1 c2 c3
            by_cases hlt : k < rounds.length
            · obtain ⟨rb, ro, rfl, hbs, hc, hrd⟩ := hPr.rounds.cell (by decide) k hlt
              have hc' : ∀ j x, (roundK.cells rounds[k])[j]? = some x → wr.cell? ⟨rb, ro + k * 2 + j, none⟩ = some x := hc
              have r0 := hc' 0 (rounds[k].vr) rfl
              have r1 := hc' 1 (rounds[k].vp) rfl
              have hnm := nmR_le rounds k hlt
              have hfst := rndsF_first (rounds.map RoundQ.e) k HA.out (by simpa using hlt)
              rw [rnd_at rounds k hlt] at hfst
              dsimp only [RoundQ.e] at hfst
              have HF1 : Hid (vf rounds[k].rep 1 ≠ 0 → E = vf rounds[k].rep 1) := fun h => by rw [HS2.out, hfst.1 h, if_neg h]
              have HF2 : Hid (vf rounds[k].rep 1 = 0 → vf rounds[k].pro 2 ≠ 0 → E = vf rounds[k].pro 2) := fun h h2 => by rw [HS2.out, hfst.2 h h2, if_neg h2]
              have HN : Hid (vf rounds[k].rep 1 = 0 → vf rounds[k].pro 2 = 0 → ∀ j, j < k + 1 → vf ((rounds.map RoundQ.e).getD j rnd0).rep 1 = 0 ∧ vf ((rounds.map RoundQ.e).getD j rnd0).pro 2 = 0) := by
                intro h1 h2 j hj
                by_cases hjk : j = k
                · subst hjk
                  rw [rnd_at rounds j hlt]
                  exact ⟨h1, h2⟩
                · exact HA.out j (by omega)
              clear HA hfst hc hc'
              generalize rounds[k] = q at *
              obtain ⟨qv, qr, qw, qp⟩ := q
              obtain ⟨rA, rP⟩ : intK.At wr qv qr ∧ intK.At wr qw qp := hrd
              dsimp only at *
              obtain ⟨ra, rk, rfl⟩ := rA.shape
              obtain ⟨pa, pk, rfl⟩ := rP.shape
              have hv1 := l5Votes_any ra rk qr 1 wr (intK_at rA).2 (by omega)
              rw [Nat.add_zero] at r0
              go_wp2_with fail
              refine hv1.mono ?_
              rintro e w2 ⟨rfl, hb2⟩
              have hPr2 := hPr.below hb2
              have hBr2 := hBr.trans (hb2.mono hBr.size)
              have hrb := World.block_lt_of_cell? wr _ r1
              replace r1 := (hb2.cell (p := ⟨rb, ro + k * 2 + 1, none⟩) hrb).trans r1
              replace hb := hb.trans (hb2.mono hb.size)
              have hv2 := l5Votes_any pa pk qp 2 w2 (intK_at (rP.below hb2)).2 (by omega)
              clear hv1 c0 c1 c2 c3 r0 hb2 hPr hBr rA rP
              obtain ⟨c0, c1, c2, c3⟩ := hPr2.box
              dsimp only at c0 c1 c2 c3
              by_cases h1 : vf qr 1 = 0
              · have HF : Hid (vf qp 2 ≠ 0 → E = vf qp 2) := HF2.out h1
                have HM : Hid (vf qp 2 = 0 → _) := HN.out h1
                rw [h1]
                clear HF1 HF2 HN h1
                go_wp2_with fail
                refine hv2.mono ?_
                rintro e w3 ⟨rfl, hb3⟩
                replace hb := hb.trans (hb3.mono hb.size)
                replace hBr2 := hBr2.trans (hb3.mono hBr2.size)
                clear hv2 c0 c1 c2 c3 r1 hb3 hPr2
                by_cases h2 : vf qp 2 = 0
                · have R := HM.out h2
                  have HR : Hid _ := R
                  rw [h2]
                  clear HF HM R h2
                  go_wp2
                  go_roundw
                  case rel => exact ⟨k + 1, by omega, by go_num, HR.out, hb⟩
                  case measure => simp [intOf]; omega
                · have E2 : Hid (E = vf qp 2) := HF.out h2
                  have h2' : (vf qp 2 != 0) = true := by simpa using h2
                  clear HF HM h2
                  generalize vf qp 2 = r at *
                  go_wp2
                  go_ret
                  exact ⟨by rw [E2.out]; rfl, hBr2⟩
              · have E2 : Hid (E = vf qr 1) := HF1.out h1
                have h1' : (vf qr 1 != 0) = true := by simpa using h1
                clear HF1 HF2 HN h1 hv2
                generalize vf qr 1 = r at *
                go_wp2
                go_ret
                exact ⟨by rw [E2.out]; rfl, hBr2⟩
            · have hkl : k = rounds.length := by omega
              subst hkl
              have E2 : Hid (E = vf dec 1) := by
                have := HS2.out
                rw [if_pos (rndsF_none _ (by simpa using HA.out))] at this
                exact this
              have hdec : intK.At wr vd dec := hPr.dec
              obtain ⟨da, dk, rfl⟩ := hdec.shape
              have hv1 := l5Votes_any da dk dec 1 wr (intK_at hdec).2 (by omega)
              clear HA HS2 hdec
              go_wp2_with fail
              refine hv1.mono ?_
              rintro e w2 ⟨rfl, hb2⟩
              replace hBr := hBr.trans (hb2.mono hBr.size)
              generalize vf dec 1 = r at *
              clear hv1 c0 c1 c2 c3 hb2 hPr
              go_wp2
              go_ret
              exact ⟨by rw [E2.out]; rfl, hBr⟩
  | true =>
    obtain ⟨c0, c1, c2, c3⟩ := hP.box
    dsimp only at c0 c1 c2 c3
    go_enter Tryz.func26, Tryz.ntmps26
    go_wp2_with fail
    refine hv.mono ?_
    rintro e w1 ⟨rfl, hb1⟩
    replace hP := hP.below hb1
    replace hB := hB.trans (hb1.mono hB.size)
    clear hv hb1 c0 c1 c2 c3
    by_cases h1 : batF (batch.map TxnQ.e) = 0
    · have HS : Hid (E = if (rounds.map RoundQ.e).length < 1 ∨ 4 < (rounds.map RoundQ.e).length then 2 else if rndsF (rounds.map RoundQ.e) = 0 then vf dec 1 else rndsF (rounds.map RoundQ.e)) := by
        have := HE.out
        rw [if_neg (by simp), if_neg (fun h => h.2 h1)] at this
        exact this
      rw [h1]
      clear HE h1
      have hv := True.intro
      by_cases hr1 : rounds.length < 1
      · have E2 : Hid (E = 2) := by rw [HS.out, if_pos (Or.inl (by simpa using hr1))]; rfl
        obtain ⟨c0, c1, c2, c3⟩ := hP.box
        dsimp only at c0 c1 c2 c3
        clear HS hv
        go_wp2
        go_ret
        exact ⟨by rw [E2.out]; rfl, hB⟩
      · by_cases hr4 : 4 < rounds.length
        · have E2 : Hid (E = 2) := by rw [HS.out, if_pos (Or.inr (by simpa using hr4))]; rfl
          obtain ⟨c0, c1, c2, c3⟩ := hP.box
          dsimp only at c0 c1 c2 c3
          clear HS hv
          go_wp2
          go_ret
          exact ⟨by rw [E2.out]; rfl, hB⟩
        · have HS2 : Hid (E = if rndsF (rounds.map RoundQ.e) = 0 then vf dec 1 else rndsF (rounds.map RoundQ.e)) := by
            have := HS.out
            rw [if_neg (by simp only [List.length_map]; omega)] at this
            exact this
          have hr1' : ¬ (rounds.length : Int) < 1 := by omega
          have hr4' : ¬ (4 : Int) < rounds.length := by omega
          clear HS hr1 hr4
          obtain ⟨c0, c1, c2, c3⟩ := hP.box
          dsimp only at c0 c1 c2 c3
          go_wp2
          clear c0 c1 c2 c3
          go_loopw [4] (fun j wr => ∃ k : Nat, k ≤ rounds.length ∧ j = .int .i64 k ∧ Hid (∀ j, j < k → vf ((rounds.map RoundQ.e).getD j rnd0).rep 1 = 0 ∧ vf ((rounds.map RoundQ.e).getD j rnd0).pro 2 = 0) ∧ Below w1.heap.size w1 wr) (fun j _ => rounds.length - (intOf j).toNat)
          case atStart => exact ⟨0, Nat.zero_le _, rfl, fun j hj => absurd hj (Nat.not_lt_zero _), Below.refl _ _⟩
          case round =>
            obtain ⟨k, hk, rfl, HA, hb⟩ := hrel
            have hPr := hP.below hb
            have hBr := hB.trans (hb.mono hB.size)
            obtain ⟨c0, c1, c2, c3⟩ := hPr.box
            dsimp only at c0 c1 c2 c3
            by_cases hlt : k < rounds.length
            · obtain ⟨rb, ro, rfl, hbs, hc, hrd⟩ := hPr.rounds.cell (by decide) k hlt
              have hc' : ∀ j x, (roundK.cells rounds[k])[j]? = some x → wr.cell? ⟨rb, ro + k * 2 + j, none⟩ = some x := hc
              have r0 := hc' 0 (rounds[k].vr) rfl
              have r1 := hc' 1 (rounds[k].vp) rfl
              have hnm := nmR_le rounds k hlt
              have hfst := rndsF_first (rounds.map RoundQ.e) k HA.out (by simpa using hlt)
              rw [rnd_at rounds k hlt] at hfst
              dsimp only [RoundQ.e] at hfst
              have HF1 : Hid (vf rounds[k].rep 1 ≠ 0 → E = vf rounds[k].rep 1) := fun h => by rw [HS2.out, hfst.1 h, if_neg h]
              have HF2 : Hid (vf rounds[k].rep 1 = 0 → vf rounds[k].pro 2 ≠ 0 → E = vf rounds[k].pro 2) := fun h h2 => by rw [HS2.out, hfst.2 h h2, if_neg h2]
              have HN : Hid (vf rounds[k].rep 1 = 0 → vf rounds[k].pro 2 = 0 → ∀ j, j < k + 1 → vf ((rounds.map RoundQ.e).getD j rnd0).rep 1 = 0 ∧ vf ((rounds.map RoundQ.e).getD j rnd0).pro 2 = 0) := by
                intro h1 h2 j hj
                by_cases hjk : j = k
                · subst hjk
                  rw [rnd_at rounds j hlt]
                  exact ⟨h1, h2⟩
                · exact HA.out j (by omega)
              clear HA hfst hc hc'
              generalize rounds[k] = q at *
              obtain ⟨qv, qr, qw, qp⟩ := q
              obtain ⟨rA, rP⟩ : intK.At wr qv qr ∧ intK.At wr qw qp := hrd
              dsimp only at *
              obtain ⟨ra, rk, rfl⟩ := rA.shape
              obtain ⟨pa, pk, rfl⟩ := rP.shape
              have hv1 := l5Votes_any ra rk qr 1 wr (intK_at rA).2 (by omega)
              rw [Nat.add_zero] at r0
              go_wp2_with fail
              refine hv1.mono ?_
              rintro e w2 ⟨rfl, hb2⟩
              have hPr2 := hPr.below hb2
              have hBr2 := hBr.trans (hb2.mono hBr.size)
              have hrb := World.block_lt_of_cell? wr _ r1
              replace r1 := (hb2.cell (p := ⟨rb, ro + k * 2 + 1, none⟩) hrb).trans r1
              replace hb := hb.trans (hb2.mono hb.size)
              have hv2 := l5Votes_any pa pk qp 2 w2 (intK_at (rP.below hb2)).2 (by omega)
              clear hv1 c0 c1 c2 c3 r0 hb2 hPr hBr rA rP
              obtain ⟨c0, c1, c2, c3⟩ := hPr2.box
              dsimp only at c0 c1 c2 c3
              by_cases h1 : vf qr 1 = 0
              · have HF : Hid (vf qp 2 ≠ 0 → E = vf qp 2) := HF2.out h1
                have HM : Hid (vf qp 2 = 0 → _) := HN.out h1
                rw [h1]
                clear HF1 HF2 HN h1
                go_wp2_with fail
                refine hv2.mono ?_
                rintro e w3 ⟨rfl, hb3⟩
                replace hb := hb.trans (hb3.mono hb.size)
                replace hBr2 := hBr2.trans (hb3.mono hBr2.size)
                clear hv2 c0 c1 c2 c3 r1 hb3 hPr2
                by_cases h2 : vf qp 2 = 0
                · have R := HM.out h2
                  have HR : Hid _ := R
                  rw [h2]
                  clear HF HM R h2
                  go_wp2
                  go_roundw
                  case rel => exact ⟨k + 1, by omega, by go_num, HR.out, hb⟩
                  case measure => simp [intOf]; omega
                · have E2 : Hid (E = vf qp 2) := HF.out h2
                  have h2' : (vf qp 2 != 0) = true := by simpa using h2
                  clear HF HM h2
                  generalize vf qp 2 = r at *
                  go_wp2
                  go_ret
                  exact ⟨by rw [E2.out]; rfl, hBr2⟩
              · have E2 : Hid (E = vf qr 1) := HF1.out h1
                have h1' : (vf qr 1 != 0) = true := by simpa using h1
                clear HF1 HF2 HN h1 hv2
                generalize vf qr 1 = r at *
                go_wp2
                go_ret
                exact ⟨by rw [E2.out]; rfl, hBr2⟩
            · have hkl : k = rounds.length := by omega
              subst hkl
              have E2 : Hid (E = vf dec 1) := by
                have := HS2.out
                rw [if_pos (rndsF_none _ (by simpa using HA.out))] at this
                exact this
              have hdec : intK.At wr vd dec := hPr.dec
              obtain ⟨da, dk, rfl⟩ := hdec.shape
              have hv1 := l5Votes_any da dk dec 1 wr (intK_at hdec).2 (by omega)
              clear HA HS2 hdec
              go_wp2_with fail
              refine hv1.mono ?_
              rintro e w2 ⟨rfl, hb2⟩
              replace hBr := hBr.trans (hb2.mono hBr.size)
              generalize vf dec 1 = r at *
              clear hv1 c0 c1 c2 c3 hb2 hPr
              go_wp2
              go_ret
              exact ⟨by rw [E2.out]; rfl, hBr⟩
    · have E1 : Hid (E = batF (batch.map TxnQ.e)) := by
        have := HE.out
        rw [if_neg (by simp), if_pos ⟨by simp, h1⟩] at this
        exact this
      have h1' : (batF (batch.map TxnQ.e) != 0) = true := by simpa using h1
      clear HE h1
      generalize batF (batch.map TxnQ.e) = r at *
      go_wp2
      go_ret
      exact ⟨by rw [E1.out]; rfl, hB⟩

end Go.Proofs.YtmlkfmjenkcflaaGreatDoor

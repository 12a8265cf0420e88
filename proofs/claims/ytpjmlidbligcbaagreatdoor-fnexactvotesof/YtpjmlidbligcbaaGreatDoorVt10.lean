/- The model's VotesOf: l10Votes, VotesOf. No condition. -/
import Derived.Test.YtpjmlidbligcbaaGreatDoorVs10
import Derived.Test.YtpjmlidbligcbaaGreatDoorI6m
namespace Go.Proofs.YtpjmlidbligcbaaGreatDoor
open Go.RowKit
open Go.BigFrame
set_option linter.unusedVariables false
set_option maxRecDepth 100000
set_option linter.unusedSimpArgs false

theorem own_cells {w : World} {base e size n c : Nat} {ad : Addr} {xs : List Value} (h : w.ownsRow base e size (.slice (some ad) n c) n xs) : ∀ j u, xs[j]? = some u → w.cell? (ad.add j) = some u := by
  rcases Lies.own h with h0 | ⟨b, off, ha, _, hc⟩
  · subst h0
    intro j u hj
    simp at hj
  · simp only [Option.some.injEq] at ha
    subst ha
    intro j u hj
    rw [Addr.add_lit]
    exact hc j u hj

theorem own_row {w : World} {base e size n : Nat} {v : Value} {xs : List Value} (h : w.ownsRow base e size v n xs) (g : Nat) (cs : Array Value) (hg : g < base) : (w.setRow g cs).ownsRow base e size v n xs :=
  own_outs h (out_row w g cs) (fun k hk hk' => by
    have h1 : v.ownBlock = some k := by simpa [blk] using hk
    have := (h.lt k h1).1
    simp at hk'
    omega)

set_option maxRecDepth 100000 in
set_option maxHeartbeats 8000000 in
theorem l10Votes_any (b o : Nat) (p : InstQ) (w : World) (hP : InstP w b o p) (hF : Frm p.e.rounds p.e.dec) :
    Calls Tryz.prog 107 #[.pointer (some ⟨b, o, none⟩)] w fun e w' => ∃ a c, e = .returned (.slice a (vtI p.e).length c) ∧ w'.ownsRow w.heap.size 79 4 (.slice a (vtI p.e).length c) (vtI p.e).length (voteCells (vtI p.e)) ∧ Below w.heap.size w w' := by
  obtain ⟨i0, hi, hz0, hz1, hz2⟩ := info_parts infoVote
  have hb0 : Below w.heap.size w (w.alloc (.cells #[] 79)) := by go_grown
  have ho0 := World.ownsRow_lit (e := 79) (size := 4) w #[] 0 (Nat.le_refl _) (by decide) rfl
  obtain ⟨has, vb, batch, vr, rounds, vd, dec⟩ := p
  obtain ⟨ra, rk, rfl⟩ : ∃ a c, vr = .slice a rounds.length c := hP.rounds.shape
  obtain ⟨da, dk, rfl⟩ : ∃ a c, vd = .slice a dec.length c := hP.dec.shape
  replace hF : Frm (rounds.map RoundQ.e) dec := hF
  have HI : Hid (vtI (InstQ.e ⟨has, vb, batch, .slice ra rounds.length rk, rounds, .slice da dec.length dk, dec⟩) = vtR 0 (rounds.map RoundQ.e) ++ rvF 3 0 0 dec) := (rfl : _ = _)
  generalize vtI (InstQ.e ⟨has, vb, batch, .slice ra rounds.length rk, rounds, .slice da dec.length dk, dec⟩) = VI at *
  have HRL : Hid ((rounds.map RoundQ.e).length = rounds.length) := List.length_map _
  have h4 : rounds.length ≤ 4 := by have := hF.h4; have := HRL.out; omega
  have hd3 : dec.length ≤ 3 := Nat.le_of_eq hF.d
  have HW : Hid (Wel (rounds.map RoundQ.e)) := hF.w
  clear hF
  go_enter Tryz.func107, Tryz.ntmps107
  go_wp2
  generalize w.alloc (.cells #[] 79) = W0 at *
  go_loopw [3, 4] (fun o j wr => ∃ (k : Nat) (a : Option Addr) (c : Nat) (R : List VoteD), k ≤ rounds.length ∧ j = .int .i64 k ∧ Hid (R = vtR 0 ((rounds.map RoundQ.e).take k)) ∧ R.length ≤ 6 * k ∧ o = .slice a R.length c ∧ wr.ownsRow w.heap.size 79 4 (.slice a R.length c) R.length (voteCells R) ∧ Below w.heap.size w wr) (fun _ j _ => rounds.length - (intOf j).toNat)
  case atStart => exact ⟨0, _, _, [], Nat.zero_le _, rfl, (rfl : _ = _), Nat.zero_le _, rfl, ho0, hb0⟩
  case round =>
    obtain ⟨k, a, c, R, hk, rfl, HR, hRl, rfl, ho, hb⟩ := hrel
    clear ho0 hb0
    have HBx : Hid (∀ W, Below w.heap.size w W → Box4 W b o (.bool has) vb (.slice ra rounds.length rk) (.slice da dec.length dk)) := fun W h => (hP.below h).box
    by_cases hlt : k < rounds.length
    · obtain ⟨rb, ro, rfl, hbs, hc, hrd⟩ := hP.rounds.cell (by decide) k hlt
      have hc' : ∀ j x, (roundK.cells rounds[k])[j]? = some x → w.cell? ⟨rb, ro + k * 2 + j, none⟩ = some x := hc
      have r0 := hc' 0 (rounds[k].vr) rfl
      have r1 := hc' 1 (rounds[k].vp) rfl
      have hA1 : intK.At w rounds[k].vr rounds[k].rep := hrd.1
      have hA2 : intK.At w rounds[k].vp rounds[k].pro := hrd.2
      have hT := vtR_take (rounds.map RoundQ.e) k (by have := HRL.out; omega)
      rw [rnd_at rounds k hlt] at hT
      have hL := HW.out rounds[k].e (List.mem_map.2 ⟨_, List.getElem_mem hlt, rfl⟩)
      have hL1 : rounds[k].rep.length ≤ 3 := Nat.le_of_eq hL.1
      have hL2 : rounds[k].pro.length ≤ 3 := Nat.le_of_eq hL.2
      have HT : Hid (vtR 0 ((rounds.map RoundQ.e).take (k + 1)) = R ++ (rvF 1 (k : Int) 0 rounds[k].rep ++ rvF 2 (k : Int) 0 rounds[k].pro)) := by rw [HR.out]; exact hT
      clear hT hL HR hc hc' hrd HW HI
      generalize rounds[k].vr = v1 at *
      generalize rounds[k].vp = v2 at *
      generalize rounds[k].rep = z1 at *
      generalize rounds[k].pro = z2 at *
      have hk1 := fun w h => l10Row_any 1 (k : Int) v1 z1 w h (by omega)
      have hk2 := fun w h => l10Row_any 2 (k : Int) v2 z2 w h (by omega)
      have hs1 : (rvF 1 (k : Int) 0 z1).length ≤ 3 := by have := rvF_len 1 (k : Int) z1 0; omega
      have hs2 : (rvF 2 (k : Int) 0 z2).length ≤ 3 := by have := rvF_len 2 (k : Int) z2 0; omega
      generalize rvF 1 (k : Int) 0 z1 = S1 at *
      generalize rvF 2 (k : Int) 0 z2 = S2 at *
      have hki : (k : Int) < (rounds.length : Int) := by omega
      obtain ⟨c0, c1, c2, c3⟩ := HBx.out _ hb
      have q0 := (hb.cell (p := ⟨rb, ro + k * 2 + 0, none⟩) hbs).trans r0
      rw [Nat.add_zero] at q0
      go_wp2_with fail
      clear c0 c1 c2 c3 q0
      refine (hk1 _ (hA1.below hb)).mono ?_
      rintro e w2 ⟨_, rfl, o2, ⟨a2, c2, rfl⟩, hb2⟩
      have ho2 := own_below ho hb2
      replace hb := hb.trans (hb2.mono hb.size)
      clear hb2 ho hk1
      go_wp2_with (at_builtin; refine wpList_append_own_at _ rfl _ _ 71 rfl w.heap.size 79 i0 (.agg #[.int .i64 0, .int .i64 0, .int .i64 0, .int .i64 0]) 4 32 Tryz.underlying71 hi hz0 hz1 hz2 rfl (by decide) _ R.length (voteCells R) rfl ho2 a2 S1.length c2 (voteCells S1) rfl (voteCells_length S1) (own_cells o2) (voteCells_one' S1) ?c3 ?c4 ?c5 ?_)
      case c3 => unfold maxLen; omega
      case c4 => omega
      case c5 => have := hb.size; omega
      intro v' w3 hown hgrow hnil hat
      obtain ⟨a3, c3, rfl⟩ := own_shape hown
      replace hb : Below w.heap.size w w3 := hb.grown hgrow (by have := hb.size; omega) (fun j hj => by
        have := (ho2).lt j hj
        omega)
      have hRl1 : (R ++ S1).length ≤ 6 * k + 3 := by rw [List.length_append]; omega
      replace ho : w3.ownsRow w.heap.size 79 4 (.slice a3 (R ++ S1).length c3) (R ++ S1).length (voteCells (R ++ S1)) := by
        rw [List.length_append, voteCells_append]
        exact hown
      obtain ⟨R2, hRN⟩ : ∃ RN, RN = R ++ S1 := ⟨_, rfl⟩
      rw [← List.length_append, ← hRN]
      rw [← hRN] at ho hRl1
      have HR2 : Hid (R2 = R ++ S1) := hRN
      clear hown hgrow hnil hat o2 hRN
      clear ho2
      obtain ⟨c0, c1, c2, c3⟩ := HBx.out _ hb
      have q1 := (hb.cell (p := ⟨rb, ro + k * 2 + 1, none⟩) hbs).trans r1
      go_wp2_with fail
      clear c0 c1 c2 c3 q1
      refine (hk2 _ (hA2.below hb)).mono ?_
      rintro e w4 ⟨_, rfl, o4, ⟨a4, c4, rfl⟩, hb2⟩
      have ho4 := own_below ho hb2
      replace hb := hb.trans (hb2.mono hb.size)
      clear hb2 ho hk2
      go_wp2_with (at_builtin; refine wpList_append_own_at _ rfl _ _ 71 rfl w.heap.size 79 i0 (.agg #[.int .i64 0, .int .i64 0, .int .i64 0, .int .i64 0]) 4 32 Tryz.underlying71 hi hz0 hz1 hz2 rfl (by decide) _ R2.length (voteCells R2) rfl ho4 a4 S2.length c4 (voteCells S2) rfl (voteCells_length S2) (own_cells o4) (voteCells_one' S2) ?c3 ?c4 ?c5 ?_)
      case c3 => unfold maxLen; omega
      case c4 => omega
      case c5 => have := hb.size; omega
      intro v' w5 hown hgrow hnil hat
      obtain ⟨a5, c5, rfl⟩ := own_shape hown
      replace hb : Below w.heap.size w w5 := hb.grown hgrow (by have := hb.size; omega) (fun j hj => by
        have := (ho4).lt j hj
        omega)
      have hRl2 : (R2 ++ S2).length ≤ 6 * k + 6 := by rw [List.length_append]; omega
      replace ho : w5.ownsRow w.heap.size 79 4 (.slice a5 (R2 ++ S2).length c5) (R2 ++ S2).length (voteCells (R2 ++ S2)) := by
        rw [List.length_append, voteCells_append]
        exact hown
      obtain ⟨R3, hRN⟩ : ∃ RN, RN = R2 ++ S2 := ⟨_, rfl⟩
      rw [← List.length_append, ← hRN]
      rw [← hRN] at ho hRl2
      have HR3 : Hid (R3 = R2 ++ S2) := hRN
      clear hown hgrow hnil hat o4 hRN
      clear ho4
      go_wp2
      go_roundw
      case rel => exact ⟨k + 1, _, _, R3, by omega, by go_num, by rw [HR3.out, HR2.out, List.append_assoc]; exact HT.out.symm, by omega, rfl, ho, hb⟩
      case measure => simp [intOf]; omega
    · have hkl : k = rounds.length := by omega
      subst hkl
      have hki : ¬ (rounds.length : Int) < (rounds.length : Int) := by omega
      have HV : Hid (VI = R ++ rvF 3 0 0 dec) := by rw [HR.out, ← HRL.out, List.take_length]; exact HI.out
      clear HR HI HW
      have hk3 := fun w h => l10Row_any 3 0 (.slice da dec.length dk) dec w h (by omega)
      have hs3 : (rvF 3 0 0 dec).length ≤ 3 := by have := rvF_len 3 0 dec 0; omega
      have hD : intK.At w (.slice da dec.length dk) dec := hP.dec
      generalize rvF 3 0 0 dec = S3 at *
      obtain ⟨c0, c1, c2, c3⟩ := HBx.out _ hb
      go_wp2_with fail
      clear c0 c1 c2 c3
      refine (hk3 _ (hD.below hb)).mono ?_
      rintro e w2 ⟨_, rfl, o2, ⟨a2, c2, rfl⟩, hb2⟩
      have ho2 := own_below ho hb2
      replace hb := hb.trans (hb2.mono hb.size)
      clear hb2 ho hk3
      go_wp2_with (at_builtin; refine wpList_append_own_at _ rfl _ _ 71 rfl w.heap.size 79 i0 (.agg #[.int .i64 0, .int .i64 0, .int .i64 0, .int .i64 0]) 4 32 Tryz.underlying71 hi hz0 hz1 hz2 rfl (by decide) _ R.length (voteCells R) rfl ho2 a2 S3.length c2 (voteCells S3) rfl (voteCells_length S3) (own_cells o2) (voteCells_one' S3) ?c3 ?c4 ?c5 ?_)
      case c3 => unfold maxLen; omega
      case c4 => omega
      case c5 => have := hb.size; omega
      intro v' w3 hown hgrow hnil hat
      obtain ⟨a3, c3, rfl⟩ := own_shape hown
      replace hb : Below w.heap.size w w3 := hb.grown hgrow (by have := hb.size; omega) (fun j hj => by
        have := (ho2).lt j hj
        omega)
      have hRl1 : (R ++ S3).length ≤ 6 * rounds.length + 3 := by rw [List.length_append]; omega
      replace ho : w3.ownsRow w.heap.size 79 4 (.slice a3 (R ++ S3).length c3) (R ++ S3).length (voteCells (R ++ S3)) := by
        rw [List.length_append, voteCells_append]
        exact hown
      obtain ⟨R2, hRN⟩ : ∃ RN, RN = R ++ S3 := ⟨_, rfl⟩
      rw [← List.length_append, ← hRN]
      rw [← hRN] at ho hRl1
      have HR2 : Hid (R2 = R ++ S3) := hRN
      clear hown hgrow hnil hat o2 hRN
      clear ho2
      go_wp2
      go_ret
      have eV := HV.out.trans HR2.out.symm
      subst eV
      exact ⟨_, _, rfl, ho, hb⟩

set_option maxRecDepth 100000 in
set_option maxHeartbeats 4000000 in
theorem specVotesOf_any (p : InstQ) (w : World) (h : instK.rd w p) (hl : p.n ≤ 1048576) :
    Calls Tryz.prog 47 #[.agg #[.bool p.has, p.vb, p.vr, p.vd]] w fun e w' => ∃ a c, e = .returned (.agg #[.int .i64 (insF p.e), .slice a (voL p.e).length c]) ∧ w'.ownsRow w.heap.size 79 4 (.slice a (voL p.e).length c) (voL p.e).length (voteCells (voL p.e)) ∧ Below w.heap.size w w' := by
  have hB : Below w.heap.size w ((w.alloc (.cells #[.bool p.has, p.vb, p.vr, p.vd] 28)).alloc (.cells #[.int .i64 0, .slice none 0 0] 73)) := by go_grown
  have Rb := Blk.new (w.alloc (.cells #[.bool p.has, p.vb, p.vr, p.vd] 28)) 73 #[.int .i64 0, .slice none 0 0]
  rw [World.size_alloc] at Rb
  have hP : InstP ((w.alloc (.cells #[.bool p.has, p.vb, p.vr, p.vd] 28)).alloc (.cells #[.int .i64 0, .slice none 0 0] 73)) w.heap.size 0 p := ⟨(box4_new w _ _ _ _ 28).below (by go_grown), instK.rd_below h hB⟩
  have hws : w.heap.size + 2 ≤ ((w.alloc (.cells #[.bool p.has, p.vb, p.vr, p.vd] 28)).alloc (.cells #[.int .i64 0, .slice none 0 0] 73)).heap.size := by simp
  have hf1 := l6Fault_any w.heap.size 0 p _ hP hl
  have hvo := fun (h0 : insF p.e = 0) W hP => l10Votes_any w.heap.size 0 p W hP (frm_of h0)
  have HV : Hid ((insF p.e = 0 → voL p.e = vtI p.e) ∧ (insF p.e ≠ 0 → voL p.e = [])) := ⟨fun h => if_pos h, fun h => if_neg h⟩
  generalize voL p.e = VL at *
  generalize vtI p.e = VI at *
  generalize insF p.e = C at *
  go_enter Tryz.func47, Tryz.ntmps47
  go_wp2_with fail
  generalize ((w.alloc (.cells #[.bool p.has, p.vb, p.vr, p.vd] 28)).alloc (.cells #[.int .i64 0, .slice none 0 0] 73)) = W at *
  refine hf1.mono ?_
  rintro e w1 ⟨rfl, hb1⟩
  replace hB := hB.trans (hb1.mono hB.size)
  replace Rb := Rb.below hb1
  have hP1 := hP.below hb1
  have hws1 : w.heap.size + 2 ≤ w1.heap.size := by have := hb1.size; omega
  clear hf1 hb1 hP
  by_cases h0 : C = 0
  · subst h0
    have hV := HV.out.1 rfl
    subst hV
    clear HV
    go_wp2_with fail
    refine (hvo (by trivial) w1 hP1).mono ?_
    rintro e w2 ⟨a2, c2, rfl, o2, hb2⟩
    replace hB := hB.trans (hb2.mono hB.size)
    replace Rb := Rb.below hb2
    clear hvo hb2
    have Rr := Rb.row #[.int .i64 0, .slice a2 VL.length c2]
    have hBr := below_row hB (g := w.heap.size + 1) (by omega) #[.int .i64 0, .slice a2 VL.length c2]
    have hor : (w2.setRow (w.heap.size + 1) #[.int .i64 0, .slice a2 VL.length c2]).ownsRow w.heap.size 79 4 (.slice a2 VL.length c2) VL.length (voteCells VL) := own_base (own_row o2 (w.heap.size + 1) _ (by omega)) (by omega)
    have hsr : (Tryz.prog.info? 73).map (·.size) = some (#[.int .i64 0, .slice a2 VL.length c2] : Array Value).size := by kernel_rfl
    go_wp2_with (first | (refine st_row (by kernel_rfl) 73 _ _ rfl _ #[.int .i64 0, .slice a2 VL.length c2] rfl rfl 73 _ Rb hsr rfl (by simp [Value.oneCell']) ?_))
    have q0 := Rr.cell 0 _ rfl
    have q1 := Rr.cell 1 _ rfl
    exact bodyPost_ret (v := .agg #[.int .i64 0, .slice a2 VL.length c2]) (by simp [results, Tryz.results47, go_sem, q0, q1]) rfl ⟨_, _, rfl, hor, hBr⟩
  · have hV := HV.out.2 h0
    subst hV
    have h0' : (C != 0) = true := by simpa using h0
    clear HV hvo h0
    have Rr := Rb.row #[.int .i64 C, .slice none 0 0]
    have hBr := below_row hB (g := w.heap.size + 1) (by omega) #[.int .i64 C, .slice none 0 0]
    have hsr : (Tryz.prog.info? 73).map (·.size) = some (#[.int .i64 C, .slice none 0 0] : Array Value).size := by kernel_rfl
    go_wp2_with (first | (refine st_row (by kernel_rfl) 73 _ _ rfl _ #[.int .i64 C, .slice none 0 0] rfl rfl 73 _ Rb hsr rfl (by simp [Value.oneCell']) ?_))
    have q0 := Rr.cell 0 _ rfl
    have q1 := Rr.cell 1 _ rfl
    exact bodyPost_ret (v := .agg #[.int .i64 C, .slice none 0 0]) (by simp [results, Tryz.results47, go_sem, q0, q1]) rfl ⟨_, _, rfl, World.ownsRow_nil _ _ _ _, hBr⟩

end Go.Proofs.YtpjmlidbligcbaaGreatDoor

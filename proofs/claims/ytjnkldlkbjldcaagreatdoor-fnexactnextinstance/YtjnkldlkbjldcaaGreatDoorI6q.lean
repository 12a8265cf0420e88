/- The program's FirstReport. -/
import Derived.Test.YtjnkldlkbjldcaaGreatDoorO6
namespace Go.Proofs.YtjnkldlkbjldcaaGreatDoor
open Go.RowKit
open Go.BigFrame
set_option linter.unusedVariables false
set_option maxRecDepth 100000
set_option linter.unusedSimpArgs false

/-- FirstReport, plainly: its code, and its instance. -/
def frC (x : InstE) (node value : Int) : Int := if atC x node 0 = 0 then (if inB value 0 1 then (if repA x.rounds 0 node.toNat = 3 then (if value = 1 ∧ x.has = false then 10 else 0) else 6) else 3) else atC x node 0
def frI (x : InstE) (node value : Int) : InstE := if frC x node value = 0 then ⟨x.has, x.batch, rstR x.rounds 0 node.toNat value, x.dec⟩ else ine0
theorem fr_facts (x : InstE) (node value : Int) : (atC x node 0 ≠ 0 → frC x node value = atC x node 0 ∧ frI x node value = ine0) ∧
    (atC x node 0 = 0 → insF x = 0 ∧ ∃ n : Nat, node = (n : Int) ∧ n < 3 ∧ 0 < x.rounds.length ∧
      (inB value 0 1 = false → frC x node value = 3 ∧ frI x node value = ine0) ∧
      (inB value 0 1 = true → repA x.rounds 0 n ≠ 3 → frC x node value = 6 ∧ frI x node value = ine0) ∧
      (inB value 0 1 = true → repA x.rounds 0 n = 3 → value = 1 → x.has = false → frC x node value = 10 ∧ frI x node value = ine0) ∧
      (inB value 0 1 = true → repA x.rounds 0 n = 3 → ¬ (value = 1 ∧ x.has = false) → frC x node value = 0 ∧ frI x node value = ⟨x.has, x.batch, rstR x.rounds 0 n value, x.dec⟩)) := by
  have hne : ∀ c, frC x node value = c → c ≠ 0 → frI x node value = ine0 := fun c hc h0 => if_neg (by rw [hc]; exact h0)
  refine ⟨fun h0 => ?_, fun h0 => ?_⟩
  · have e : frC x node value = atC x node 0 := if_neg h0
    exact ⟨e, hne _ e h0⟩
  · obtain ⟨hi, n, r, rfl, hr0, hn, hr⟩ := at_zero h0
    refine ⟨hi, n, rfl, hn, by omega, fun h1 => ?_, fun h1 h2 => ?_, fun h1 h2 h3 h4 => ?_, fun h1 h2 h3 => ?_⟩
    · have e : frC x n value = 3 := by unfold frC; rw [if_pos h0, h1]; rfl
      exact ⟨e, hne _ e (by decide)⟩
    · have e : frC x n value = 6 := by unfold frC; rw [if_pos h0, h1, if_pos rfl, Int.toNat_natCast, if_neg h2]
      exact ⟨e, hne _ e (by decide)⟩
    · have e : frC x n value = 10 := by unfold frC; rw [if_pos h0, h1, if_pos rfl, Int.toNat_natCast, if_pos h2, if_pos ⟨h3, h4⟩]
      exact ⟨e, hne _ e (by decide)⟩
    · have e : frC x n value = 0 := by unfold frC; rw [if_pos h0, h1, if_pos rfl, Int.toNat_natCast, if_pos h2, if_neg h3]
      exact ⟨e, by unfold frI; rw [if_pos e, Int.toNat_natCast]⟩

set_option maxHeartbeats 4000000 in
theorem implFirstReport_any (p : InstQ) (node value : Int) (w : World) (hG : RulO w) (h : instK.rd w p) (hl : p.n ≤ 1048576) :
    Calls Tryz.prog 38 #[.agg #[.bool p.has, p.vb, p.vr, p.vd], .int .i64 node, .int .i64 value] w fun e w' => ∃ q : InstQ, e = .returned (.agg (resC (frC p.e node value) 0 false false 0 q)) ∧ q.e = frI p.e node value ∧ instK.own w' q ∧ (instK.foot q).Nodup ∧ (∀ k ∈ instK.foot q, w.heap.size ≤ k) ∧ Below w.heap.size w w' := by
  obtain ⟨hl30, hone⟩ := bdAt_ok node 0 h
  have hbo := fun w hG h => boardAt_any p node 0 w hG h hl
  have hrb := fun (w' : World) hb => instK.rd_below (w' := w') h hb
  have hTx : txnK.At w p.vb p.batch := h.1
  have hin := fun (h0 : insF p.e = 0) (rs : List RoundE) (dec : List Int) w (hT : txnK.At w p.vb p.batch) hw h4 h3 => instance_any p.has p.vb p.batch rs dec w hT (ins_low h0).1 (by unfold InstQ.n at hl; omega) hw h4 h3
  have HBD : Hid (atC p.e node 0 = 0 → bdAt p node 0 = brdC p.has p.vb p.e.rounds p.dec ∧ Wel p.e.rounds ∧ p.e.rounds.length ≤ 4 ∧ p.dec.length = 3) := bdAt_zero
  have HF := fr_facts p.e node value
  rw [show p.e.has = p.has from rfl, show p.e.batch = p.batch.map TxnQ.e from rfl, show p.e.dec = p.dec from rfl] at HF
  generalize frC p.e node value = D at *
  generalize frI p.e node value = E at *
  generalize insF p.e = IF at *
  generalize bdAt p node 0 = BD at *
  generalize atC p.e node 0 = C at *
  generalize p.e.rounds = rs at *
  replace HF : Hid _ := HF
  obtain ⟨has, vb, batch, vr, rounds, vd, dec⟩ := p
  obtain ⟨ba, bk, rfl⟩ : ∃ a c, vb = .slice a batch.length c := h.1.shape
  obtain ⟨va, vk, rfl⟩ : ∃ a c, vr = .slice a rounds.length c := h.2.1.shape
  obtain ⟨da, dk, rfl⟩ : ∃ a c, vd = .slice a dec.length c := h.2.2.shape
  dsimp only at hbo hrb HBD HF hin hTx
  have hB : Below w.heap.size w ((w.alloc (.cells #[.bool has, .slice ba batch.length bk, .slice va rounds.length vk, .slice da dec.length dk] 28)).alloc (.cells #[.int .i64 0, .int .i64 0, .bool false, .bool false, .int .i64 0, .bool false, .slice none 0 0, .slice none 0 0, .slice none 0 0] 39)) := by go_grown
  have Rb := Blk.new (w.alloc (.cells #[.bool has, .slice ba batch.length bk, .slice va rounds.length vk, .slice da dec.length dk] 28)) 39 #[.int .i64 0, .int .i64 0, .bool false, .bool false, .int .i64 0, .bool false, .slice none 0 0, .slice none 0 0, .slice none 0 0]
  simp only [World.size_alloc] at Rb
  have hszB : (Tryz.prog.info? 119).map (·.size) = some BD.toArray.size := by rw [List.size_toArray, hl30]; exact sz_board
  have hold : (#[.int .i64 0, .int .i64 0, .int .i64 0, .int .i64 0, .int .i64 0, .int .i64 0, .int .i64 0, .int .i64 0, .int .i64 0, .int .i64 0, .int .i64 0, .int .i64 0, .int .i64 0, .int .i64 0, .int .i64 0, .int .i64 0, .int .i64 0, .int .i64 0, .int .i64 0, .int .i64 0, .int .i64 0, .int .i64 0, .int .i64 0, .int .i64 0, .int .i64 0, .bool false, .slice none 0 0, .int .i64 0, .int .i64 0, .int .i64 0] : Array Value).size = BD.toArray.size := (show 30 = BD.length from hl30.symm)
  go_enter Tryz.func38, Tryz.ntmps38
  go_wp2_with fail
  generalize ((w.alloc (.cells #[.bool has, .slice ba batch.length bk, .slice va rounds.length vk, .slice da dec.length dk] 28)).alloc (.cells #[.int .i64 0, .int .i64 0, .bool false, .bool false, .int .i64 0, .bool false, .slice none 0 0, .slice none 0 0, .slice none 0 0] 39)) = W at *
  refine (hbo W (hG.r.below hB) (hrb W hB)).mono ?_
  rintro e w1 ⟨rfl, hb1⟩
  replace hB := hB.trans (hb1.mono hB.size)
  have hgo : w1.heap.size ≠ 0 := by have h1 := hG.o.glob; have h2 := hB.size; omega
  replace Rb := Rb.below hb1
  have Bz := Blk.new w1 119 #[.int .i64 0, .int .i64 0, .int .i64 0, .int .i64 0, .int .i64 0, .int .i64 0, .int .i64 0, .int .i64 0, .int .i64 0, .int .i64 0, .int .i64 0, .int .i64 0, .int .i64 0, .int .i64 0, .int .i64 0, .int .i64 0, .int .i64 0, .int .i64 0, .int .i64 0, .int .i64 0, .int .i64 0, .int .i64 0, .int .i64 0, .int .i64 0, .int .i64 0, .bool false, .slice none 0 0, .int .i64 0, .int .i64 0, .int .i64 0]
  have hB2 := below_row (hB.alloc hB.size (.cells #[.int .i64 0, .int .i64 0, .int .i64 0, .int .i64 0, .int .i64 0, .int .i64 0, .int .i64 0, .int .i64 0, .int .i64 0, .int .i64 0, .int .i64 0, .int .i64 0, .int .i64 0, .int .i64 0, .int .i64 0, .int .i64 0, .int .i64 0, .int .i64 0, .int .i64 0, .int .i64 0, .int .i64 0, .int .i64 0, .int .i64 0, .int .i64 0, .int .i64 0, .bool false, .slice none 0 0, .int .i64 0, .int .i64 0, .int .i64 0] 119)) (g := w1.heap.size) hB.size BD.toArray
  have Rb2 : Blk ((w1.alloc (.cells #[.int .i64 0, .int .i64 0, .int .i64 0, .int .i64 0, .int .i64 0, .int .i64 0, .int .i64 0, .int .i64 0, .int .i64 0, .int .i64 0, .int .i64 0, .int .i64 0, .int .i64 0, .int .i64 0, .int .i64 0, .int .i64 0, .int .i64 0, .int .i64 0, .int .i64 0, .int .i64 0, .int .i64 0, .int .i64 0, .int .i64 0, .int .i64 0, .int .i64 0, .bool false, .slice none 0 0, .int .i64 0, .int .i64 0, .int .i64 0] 119)).setRow w1.heap.size BD.toArray) (w.heap.size + 1) 39 #[.int .i64 0, .int .i64 0, .bool false, .bool false, .int .i64 0, .bool false, .slice none 0 0, .slice none 0 0, .slice none 0 0] := (setRow_other _ _ _ _ (by have := Rb.lt; omega)).trans (Rb.below ((Below.refl _ _).alloc (Nat.le_refl _) _))
  have B2 := Bz.row BD.toArray
  have hlt2 : w.heap.size + 1 < w1.heap.size := Rb.lt
  clear hbo hrb hb1 Rb
  by_cases h0 : C = 0
  case neg =>
    have E1 : Hid (D = C ∧ E = ine0) := HF.out.1 h0
    have h0' : (C != 0) = true := by simpa using h0
    clear HF HBD h0 B2 hin
    have Rr := Rb2.row #[.int .i64 C, .int .i64 0, .bool false, .bool false, .int .i64 0, .bool false, .slice none 0 0, .slice none 0 0, .slice none 0 0]
    have hBr := below_row hB2 (g := w.heap.size + 1) (by omega) #[.int .i64 C, .int .i64 0, .bool false, .bool false, .int .i64 0, .bool false, .slice none 0 0, .slice none 0 0, .slice none 0 0]
    have hsr : (Tryz.prog.info? 39).map (·.size) = some (#[.int .i64 C, .int .i64 0, .bool false, .bool false, .int .i64 0, .bool false, .slice none 0 0, .slice none 0 0, .slice none 0 0] : Array Value).size := sz_res
    go_wp2_with (first | (refine st_row (by kernel_rfl) 119 _ _ rfl _ BD.toArray rfl rfl 119 _ Bz hszB hold hone ?_) | (refine st_row (by kernel_rfl) 39 _ _ rfl _ #[.int .i64 C, .int .i64 0, .bool false, .bool false, .int .i64 0, .bool false, .slice none 0 0, .slice none 0 0, .slice none 0 0] rfl rfl 39 _ Rb2 hsr rfl (by simp [Value.oneCell']) ?_))
    have q0 := Rr.cell 0 _ rfl
    have q1 := Rr.cell 1 _ rfl
    have q2 := Rr.cell 2 _ rfl
    have q3 := Rr.cell 3 _ rfl
    have q4 := Rr.cell 4 _ rfl
    have q5 := Rr.cell 5 _ rfl
    have q6 := Rr.cell 6 _ rfl
    have q7 := Rr.cell 7 _ rfl
    have q8 := Rr.cell 8 _ rfl
    exact bodyPost_ret (v := .agg #[.int .i64 C, .int .i64 0, .bool false, .bool false, .int .i64 0, .bool false, .slice none 0 0, .slice none 0 0, .slice none 0 0]) (by simp [results, Tryz.results38, go_sem, q0, q1, q2, q3, q4, q5, q6, q7, q8]) rfl ⟨inst0, by rw [E1.out.1]; rfl, E1.out.2.symm, inst0_own _, inst0_nd, fun k hk => by rw [inst0_ft] at hk; simp at hk, hBr⟩

  case pos =>
    obtain ⟨hBD, hwel, h4, hd3⟩ := HBD.out h0
    obtain ⟨hi0, n, rfl, hn, hr, f3, f6, f10, f0⟩ := HF.out.2 h0
    have H0 : Hid (IF = 0) := hi0
    have HB9 : Hid (BD = brdC has (.slice ba batch.length bk) rs dec) := hBD
    have HD5 : Hid (dec.length = 3) := hd3
    have F3 : Hid _ := f3
    have F6 : Hid _ := f6
    have F10 : Hid _ := f10
    have F0 : Hid _ := f0
    subst h0
    clear HBD hBD hd3 hi0 f3 f6 f10 f0 HF
    have hsR : (Tryz.prog.info? 117).map (·.size) = some (rndC rs).length := by rw [rndC_length hwel h4]; exact sz_rounds
    cases hV : inB value 0 1 with
    | false =>
      have E1 : Hid (D = 3 ∧ E = ine0) := F3.out hV
      clear F3 F6 F10 F0 hin B2 HB9 hsR
      have Rr := Rb2.row #[.int .i64 3, .int .i64 0, .bool false, .bool false, .int .i64 0, .bool false, .slice none 0 0, .slice none 0 0, .slice none 0 0]
      have hBr := below_row hB2 (g := w.heap.size + 1) (by omega) #[.int .i64 3, .int .i64 0, .bool false, .bool false, .int .i64 0, .bool false, .slice none 0 0, .slice none 0 0, .slice none 0 0]
      have hsr : (Tryz.prog.info? 39).map (·.size) = some (#[.int .i64 3, .int .i64 0, .bool false, .bool false, .int .i64 0, .bool false, .slice none 0 0, .slice none 0 0, .slice none 0 0] : Array Value).size := sz_res
      go_wp2_with (first | (refine st_row (by kernel_rfl) 119 _ _ rfl _ BD.toArray rfl rfl 119 _ Bz hszB hold hone ?_) | (go_at_call 114; refine (within_any _ _ _ _).mono ?_; rintro e w' ⟨rfl, rfl⟩) | (refine st_row (by kernel_rfl) 39 _ _ rfl _ #[.int .i64 3, .int .i64 0, .bool false, .bool false, .int .i64 0, .bool false, .slice none 0 0, .slice none 0 0, .slice none 0 0] rfl rfl 39 _ Rb2 hsr rfl (by simp [Value.oneCell']) ?_))
      have q0 := Rr.cell 0 _ rfl
      have q1 := Rr.cell 1 _ rfl
      have q2 := Rr.cell 2 _ rfl
      have q3 := Rr.cell 3 _ rfl
      have q4 := Rr.cell 4 _ rfl
      have q5 := Rr.cell 5 _ rfl
      have q6 := Rr.cell 6 _ rfl
      have q7 := Rr.cell 7 _ rfl
      have q8 := Rr.cell 8 _ rfl
      exact bodyPost_ret (v := .agg #[.int .i64 3, .int .i64 0, .bool false, .bool false, .int .i64 0, .bool false, .slice none 0 0, .slice none 0 0, .slice none 0 0]) (by simp [results, Tryz.results38, go_sem, q0, q1, q2, q3, q4, q5, q6, q7, q8]) rfl ⟨inst0, by rw [E1.out.1]; rfl, E1.out.2.symm, inst0_own _, inst0_nd, fun k hk => by rw [inst0_ft] at hk; simp at hk, hBr⟩

    | true =>
      have RGR := rng B2 (rndC rs) (o := 0) (fun j v hv => by
        have hj := (List.getElem?_eq_some_iff.1 hv).1
        rw [rndC_length hwel h4] at hj
        rw [Nat.zero_add, List.getElem?_toArray, HB9.out, brd_rnd hwel h4 j hj]
        exact hv)
      have hhr : ∀ b, (repA rs 0 n != 3) = b → ∀ w, Calls Tryz.prog 115 #[.agg (rndC rs).toArray, .int .i64 0, .int .i64 (n : Int)] w fun e w' => e = .returned (.bool b) ∧ Below w.heap.size w w' := fun b hb w => by
        have := hasReport_any rs 0 n w hwel h4 hn
        rw [hb, decide_eq_true hr, Bool.true_and] at this
        exact this
      go_wp2_with (first | (refine st_row (by kernel_rfl) 119 _ _ rfl _ BD.toArray rfl rfl 119 _ Bz hszB hold hone ?_) | (refine ld_g (by kernel_rfl) 117 _ rfl _ _ rfl (rndC rs) _ RGR Tryz.underlying117 rfl hsR ?_) | (go_at_call 114; refine (within_any _ _ _ _).mono ?_; rintro e w' ⟨rfl, rfl⟩))
      generalize ((w1.alloc (.cells #[.int .i64 0, .int .i64 0, .int .i64 0, .int .i64 0, .int .i64 0, .int .i64 0, .int .i64 0, .int .i64 0, .int .i64 0, .int .i64 0, .int .i64 0, .int .i64 0, .int .i64 0, .int .i64 0, .int .i64 0, .int .i64 0, .int .i64 0, .int .i64 0, .int .i64 0, .int .i64 0, .int .i64 0, .int .i64 0, .int .i64 0, .int .i64 0, .int .i64 0, .bool false, .slice none 0 0, .int .i64 0, .int .i64 0, .int .i64 0] 119)).setRow w1.heap.size BD.toArray) = X at *
      clear RGR Bz
      by_cases hp4 : repA rs 0 n = 3
      case neg =>
        have E1 : Hid (D = 6 ∧ E = ine0) := F6.out hV hp4
        refine (hhr true (by simpa using hp4) X).mono ?_
        rintro e w3 ⟨rfl, hb3⟩
        replace Rb2 := Rb2.below hb3
        replace hB2 := hB2.trans (hb3.mono hB2.size)
        clear F3 F6 F10 F0 hp4 hin B2 HB9 hsR hhr hb3
        have Rr := Rb2.row #[.int .i64 6, .int .i64 0, .bool false, .bool false, .int .i64 0, .bool false, .slice none 0 0, .slice none 0 0, .slice none 0 0]
        have hBr := below_row hB2 (g := w.heap.size + 1) (by omega) #[.int .i64 6, .int .i64 0, .bool false, .bool false, .int .i64 0, .bool false, .slice none 0 0, .slice none 0 0, .slice none 0 0]
        have hsr : (Tryz.prog.info? 39).map (·.size) = some (#[.int .i64 6, .int .i64 0, .bool false, .bool false, .int .i64 0, .bool false, .slice none 0 0, .slice none 0 0, .slice none 0 0] : Array Value).size := sz_res
        go_wp2_with (first | (refine st_row (by kernel_rfl) 39 _ _ rfl _ #[.int .i64 6, .int .i64 0, .bool false, .bool false, .int .i64 0, .bool false, .slice none 0 0, .slice none 0 0, .slice none 0 0] rfl rfl 39 _ Rb2 hsr rfl (by simp [Value.oneCell']) ?_))
        have q0 := Rr.cell 0 _ rfl
        have q1 := Rr.cell 1 _ rfl
        have q2 := Rr.cell 2 _ rfl
        have q3 := Rr.cell 3 _ rfl
        have q4 := Rr.cell 4 _ rfl
        have q5 := Rr.cell 5 _ rfl
        have q6 := Rr.cell 6 _ rfl
        have q7 := Rr.cell 7 _ rfl
        have q8 := Rr.cell 8 _ rfl
        exact bodyPost_ret (v := .agg #[.int .i64 6, .int .i64 0, .bool false, .bool false, .int .i64 0, .bool false, .slice none 0 0, .slice none 0 0, .slice none 0 0]) (by simp [results, Tryz.results38, go_sem, q0, q1, q2, q3, q4, q5, q6, q7, q8]) rfl ⟨inst0, by rw [E1.out.1]; rfl, E1.out.2.symm, inst0_own _, inst0_nd, fun k hk => by rw [inst0_ft] at hk; simp at hk, hBr⟩

      case pos =>
        refine (hhr false (by rw [hp4]; rfl) X).mono ?_
        rintro e w3 ⟨rfl, hb3⟩
        replace Rb2 := Rb2.below hb3
        replace B2 := B2.below hb3
        replace hB2 := hB2.trans (hb3.mono hB2.size)
        have c25 : w3.cell? ⟨w1.heap.size, 25, none⟩ = some (.bool has) := B2.cell 25 _ (by rw [List.getElem?_toArray, HB9.out]; exact brd_has hwel h4)
        have F1 : Hid ((value = 1 → has = false → D = 10 ∧ E = ine0) ∧ (¬ (value = 1 ∧ has = false) → D = 0 ∧ E = ⟨has, batch.map TxnQ.e, rstR rs 0 n value, dec⟩)) := ⟨F10.out hV hp4, F0.out hV hp4⟩
        clear F3 F6 F10 F0 hp4 hhr hb3 hsR
        by_cases hbad : value = 1 ∧ has = false
        case pos =>
          obtain ⟨rfl, rfl⟩ := hbad
          have E1 : Hid (D = 10 ∧ E = ine0) := F1.out.1 rfl rfl
          clear F1 hin B2 HB9
          have Rr := Rb2.row #[.int .i64 10, .int .i64 0, .bool false, .bool false, .int .i64 0, .bool false, .slice none 0 0, .slice none 0 0, .slice none 0 0]
          have hBr := below_row hB2 (g := w.heap.size + 1) (by omega) #[.int .i64 10, .int .i64 0, .bool false, .bool false, .int .i64 0, .bool false, .slice none 0 0, .slice none 0 0, .slice none 0 0]
          have hsr : (Tryz.prog.info? 39).map (·.size) = some (#[.int .i64 10, .int .i64 0, .bool false, .bool false, .int .i64 0, .bool false, .slice none 0 0, .slice none 0 0, .slice none 0 0] : Array Value).size := sz_res
          go_wp2_with (first | (refine st_row (by kernel_rfl) 39 _ _ rfl _ #[.int .i64 10, .int .i64 0, .bool false, .bool false, .int .i64 0, .bool false, .slice none 0 0, .slice none 0 0, .slice none 0 0] rfl rfl 39 _ Rb2 hsr rfl (by simp [Value.oneCell']) ?_))
          have q0 := Rr.cell 0 _ rfl
          have q1 := Rr.cell 1 _ rfl
          have q2 := Rr.cell 2 _ rfl
          have q3 := Rr.cell 3 _ rfl
          have q4 := Rr.cell 4 _ rfl
          have q5 := Rr.cell 5 _ rfl
          have q6 := Rr.cell 6 _ rfl
          have q7 := Rr.cell 7 _ rfl
          have q8 := Rr.cell 8 _ rfl
          exact bodyPost_ret (v := .agg #[.int .i64 10, .int .i64 0, .bool false, .bool false, .int .i64 0, .bool false, .slice none 0 0, .slice none 0 0, .slice none 0 0]) (by simp [results, Tryz.results38, go_sem, q0, q1, q2, q3, q4, q5, q6, q7, q8]) rfl ⟨inst0, by rw [E1.out.1]; rfl, E1.out.2.symm, inst0_own _, inst0_nd, fun k hk => by rw [inst0_ft] at hk; simp at hk, hBr⟩

        case neg =>
          have E1 : Hid (D = 0 ∧ E = ⟨has, batch.map TxnQ.e, rstR rs 0 n value, dec⟩) := F1.out.2 hbad
          clear F1
          have hrp := report_any w1.heap.size 119 rs ([.bool has, .slice ba batch.length bk] ++ dec.map iv) 0 n value w3 (hG.o.below hB2) hgo (by have := B2; rw [HB9.out] at this; exact this) hwel h4 (by omega) (by omega) hn
          have ee : ensR rs 0 = rs := if_neg (by omega)
          rw [ee] at hrp
          change Calls Tryz.prog _ #[_, .int .i64 0, _, _] _ fun e w' => _ ∧ Blk w' _ _ (brdC has (.slice ba batch.length bk) (rstR rs 0 n value) dec).toArray ∧ _ at hrp
          have hwel5 := wel_rstR hwel 0 n hr value
          have h45 : (rstR rs 0 n value).length ≤ 4 := by rw [rstR_length]; exact h4
          have hcall : ∀ (Q : Exit → World → Prop), True := fun _ => trivial
          clear ee B2 HB9 hcall
          by_cases hv1 : value = 1
          · have hh : has = true := by cases has with | true => rfl | false => exact absurd ⟨hv1, rfl⟩ hbad
            subst hv1 hh
            clear hbad
            go_wp2_with fail
            clear c25
            refine hrp.mono ?_
            rintro e X5 ⟨rfl, B5, hU5⟩
            have R3 : Blk X5 (w.heap.size + 1) 39 _ := (hU5.block _ Rb2.lt (by simp only [List.mem_singleton]; omega)).trans Rb2
            have hBg := Out.keep hB2 hU5 hB2.size (fun k hk => by simp only [List.mem_singleton] at hk; omega)
            clear Rb2 hB2 hU5 hrp
            have X4 := rng B5 (brdC true (.slice ba batch.length bk) (rstR rs 0 n 1) dec) (o := 0) (fun j v hv => by rw [Nat.zero_add, List.getElem?_toArray]; exact hv)
            have hs30 : (Tryz.prog.info? 119).map (·.size) = some (brdC true (.slice ba batch.length bk) (rstR rs 0 n 1) dec).length := by rw [brdC_length hwel5 h45 HD5.out]; exact sz_board
            clear B5
            go_wp2_with (first | (refine ld_g (by kernel_rfl) 119 _ rfl _ _ rfl (brdC true (.slice ba batch.length bk) (rstR rs 0 n 1) dec) _ X4 Tryz.underlying119 rfl hs30 ?_))
            clear X4 hs30
            refine (hin H0.out (rstR rs 0 n 1) dec X5 (hTx.below hBg) hwel5 h45 HD5.out).mono ?_
            rintro e w7 ⟨q, rfl, eq, oq, nq, gq, hb7⟩
            have R5 := R3.below hb7
            have hR5 := R3.lt
            have L5 : ∀ k ∈ instK.foot q, w.heap.size + 2 ≤ k := fun k hk => by have := gq k hk; omega
            replace hBg := hBg.trans (hb7.mono hBg.size)
            clear hin gq hb7 R3
            have hous : ∀ cs, instK.own (w7.setRow (w.heap.size + 1) cs) q := fun cs => instK.own_out oq (out_row w7 (w.heap.size + 1) cs) (fun k hk => by have := L5 k hk; simp only [List.mem_singleton]; omega)
            have HQ : Hid (q.e = E ∧ (instK.foot q).Nodup ∧ (∀ k ∈ instK.foot q, w.heap.size ≤ k) ∧ ∀ cs, instK.own (w7.setRow (w.heap.size + 1) cs) q) := ⟨by rw [eq, E1.out.2], nq, fun k hk => by have := L5 k hk; omega, hous⟩
            have HD0 : Hid (D = 0) := E1.out.1
            clear E1 eq nq hous L5
            obtain ⟨qh, qb, qbs, qr, qrs, qd, qds⟩ := q
            obtain ⟨s1, t1, rfl⟩ : ∃ a c, qb = .slice a qbs.length c := oq.1.shape
            obtain ⟨s2, t2, rfl⟩ : ∃ a c, qr = .slice a qrs.length c := oq.2.1.shape
            obtain ⟨s3, t3, rfl⟩ : ∃ a c, qd = .slice a qds.length c := oq.2.2.shape
            have Rr := R5.row #[.int .i64 0, .int .i64 0, .bool false, .bool false, .int .i64 0, .bool qh, .slice s1 qbs.length t1, .slice s2 qrs.length t2, .slice s3 qds.length t3]
            have hBr := below_row hBg (g := w.heap.size + 1) (by omega) #[.int .i64 0, .int .i64 0, .bool false, .bool false, .int .i64 0, .bool qh, .slice s1 qbs.length t1, .slice s2 qrs.length t2, .slice s3 qds.length t3]
            have hsr : (Tryz.prog.info? 39).map (·.size) = some (#[.int .i64 0, .int .i64 0, .bool false, .bool false, .int .i64 0, .bool qh, .slice s1 qbs.length t1, .slice s2 qrs.length t2, .slice s3 qds.length t3] : Array Value).size := sz_res
            clear oq
            go_wp2_with (first | (refine st_row (by kernel_rfl) 39 _ _ rfl _ #[.int .i64 0, .int .i64 0, .bool false, .bool false, .int .i64 0, .bool qh, .slice s1 qbs.length t1, .slice s2 qrs.length t2, .slice s3 qds.length t3] rfl rfl 39 _ R5 hsr rfl (by simp [Value.oneCell']) ?_))
            have q0 := Rr.cell 0 _ rfl
            have q1 := Rr.cell 1 _ rfl
            have q2 := Rr.cell 2 _ rfl
            have q3 := Rr.cell 3 _ rfl
            have q4 := Rr.cell 4 _ rfl
            have q5 := Rr.cell 5 _ rfl
            have q6 := Rr.cell 6 _ rfl
            have q7 := Rr.cell 7 _ rfl
            have q8 := Rr.cell 8 _ rfl
            exact bodyPost_ret (v := .agg #[.int .i64 0, .int .i64 0, .bool false, .bool false, .int .i64 0, .bool qh, .slice s1 qbs.length t1, .slice s2 qrs.length t2, .slice s3 qds.length t3]) (by simp [results, Tryz.results38, go_sem, q0, q1, q2, q3, q4, q5, q6, q7, q8]) rfl ⟨⟨qh, .slice s1 qbs.length t1, qbs, .slice s2 qrs.length t2, qrs, .slice s3 qds.length t3, qds⟩, by rw [HD0.out], HQ.out.1, HQ.out.2.2.2 _, HQ.out.2.1, HQ.out.2.2.1, hBr⟩

          · have hv1' : (value == 1) = false := by simpa using hv1
            clear hbad hv1
            go_wp2_with fail
            clear c25 hv1'
            refine hrp.mono ?_
            rintro e X5 ⟨rfl, B5, hU5⟩
            have R3 : Blk X5 (w.heap.size + 1) 39 _ := (hU5.block _ Rb2.lt (by simp only [List.mem_singleton]; omega)).trans Rb2
            have hBg := Out.keep hB2 hU5 hB2.size (fun k hk => by simp only [List.mem_singleton] at hk; omega)
            clear Rb2 hB2 hU5 hrp
            have X4 := rng B5 (brdC has (.slice ba batch.length bk) (rstR rs 0 n value) dec) (o := 0) (fun j v hv => by rw [Nat.zero_add, List.getElem?_toArray]; exact hv)
            have hs30 : (Tryz.prog.info? 119).map (·.size) = some (brdC has (.slice ba batch.length bk) (rstR rs 0 n value) dec).length := by rw [brdC_length hwel5 h45 HD5.out]; exact sz_board
            clear B5
            go_wp2_with (first | (refine ld_g (by kernel_rfl) 119 _ rfl _ _ rfl (brdC has (.slice ba batch.length bk) (rstR rs 0 n value) dec) _ X4 Tryz.underlying119 rfl hs30 ?_))
            clear X4 hs30
            refine (hin H0.out (rstR rs 0 n value) dec X5 (hTx.below hBg) hwel5 h45 HD5.out).mono ?_
            rintro e w7 ⟨q, rfl, eq, oq, nq, gq, hb7⟩
            have R5 := R3.below hb7
            have hR5 := R3.lt
            have L5 : ∀ k ∈ instK.foot q, w.heap.size + 2 ≤ k := fun k hk => by have := gq k hk; omega
            replace hBg := hBg.trans (hb7.mono hBg.size)
            clear hin gq hb7 R3
            have hous : ∀ cs, instK.own (w7.setRow (w.heap.size + 1) cs) q := fun cs => instK.own_out oq (out_row w7 (w.heap.size + 1) cs) (fun k hk => by have := L5 k hk; simp only [List.mem_singleton]; omega)
            have HQ : Hid (q.e = E ∧ (instK.foot q).Nodup ∧ (∀ k ∈ instK.foot q, w.heap.size ≤ k) ∧ ∀ cs, instK.own (w7.setRow (w.heap.size + 1) cs) q) := ⟨by rw [eq, E1.out.2], nq, fun k hk => by have := L5 k hk; omega, hous⟩
            have HD0 : Hid (D = 0) := E1.out.1
            clear E1 eq nq hous L5
            obtain ⟨qh, qb, qbs, qr, qrs, qd, qds⟩ := q
            obtain ⟨s1, t1, rfl⟩ : ∃ a c, qb = .slice a qbs.length c := oq.1.shape
            obtain ⟨s2, t2, rfl⟩ : ∃ a c, qr = .slice a qrs.length c := oq.2.1.shape
            obtain ⟨s3, t3, rfl⟩ : ∃ a c, qd = .slice a qds.length c := oq.2.2.shape
            have Rr := R5.row #[.int .i64 0, .int .i64 0, .bool false, .bool false, .int .i64 0, .bool qh, .slice s1 qbs.length t1, .slice s2 qrs.length t2, .slice s3 qds.length t3]
            have hBr := below_row hBg (g := w.heap.size + 1) (by omega) #[.int .i64 0, .int .i64 0, .bool false, .bool false, .int .i64 0, .bool qh, .slice s1 qbs.length t1, .slice s2 qrs.length t2, .slice s3 qds.length t3]
            have hsr : (Tryz.prog.info? 39).map (·.size) = some (#[.int .i64 0, .int .i64 0, .bool false, .bool false, .int .i64 0, .bool qh, .slice s1 qbs.length t1, .slice s2 qrs.length t2, .slice s3 qds.length t3] : Array Value).size := sz_res
            clear oq
            go_wp2_with (first | (refine st_row (by kernel_rfl) 39 _ _ rfl _ #[.int .i64 0, .int .i64 0, .bool false, .bool false, .int .i64 0, .bool qh, .slice s1 qbs.length t1, .slice s2 qrs.length t2, .slice s3 qds.length t3] rfl rfl 39 _ R5 hsr rfl (by simp [Value.oneCell']) ?_))
            have q0 := Rr.cell 0 _ rfl
            have q1 := Rr.cell 1 _ rfl
            have q2 := Rr.cell 2 _ rfl
            have q3 := Rr.cell 3 _ rfl
            have q4 := Rr.cell 4 _ rfl
            have q5 := Rr.cell 5 _ rfl
            have q6 := Rr.cell 6 _ rfl
            have q7 := Rr.cell 7 _ rfl
            have q8 := Rr.cell 8 _ rfl
            exact bodyPost_ret (v := .agg #[.int .i64 0, .int .i64 0, .bool false, .bool false, .int .i64 0, .bool qh, .slice s1 qbs.length t1, .slice s2 qrs.length t2, .slice s3 qds.length t3]) (by simp [results, Tryz.results38, go_sem, q0, q1, q2, q3, q4, q5, q6, q7, q8]) rfl ⟨⟨qh, .slice s1 qbs.length t1, qbs, .slice s2 qrs.length t2, qrs, .slice s3 qds.length t3, qds⟩, by rw [HD0.out], HQ.out.1, HQ.out.2.2.2 _, HQ.out.2.1, HQ.out.2.2.1, hBr⟩

end Go.Proofs.YtjnkldlkbjldcaaGreatDoor

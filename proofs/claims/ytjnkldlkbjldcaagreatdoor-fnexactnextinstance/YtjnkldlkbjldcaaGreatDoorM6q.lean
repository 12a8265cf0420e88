/- The model's FirstReport. -/
import Derived.Test.YtjnkldlkbjldcaaGreatDoorI6q
namespace Go.Proofs.YtjnkldlkbjldcaaGreatDoor
open Go.RowKit
open Go.BigFrame
set_option linter.unusedVariables false
set_option maxRecDepth 100000
set_option linter.unusedSimpArgs false

set_option maxHeartbeats 4000000 in
theorem l6First_any (b o : Nat) (p : InstQ) (node value : Int) (w : World) (hP : InstP w b o p) (hbw : b < w.heap.size) (hl : p.n ≤ 1048576) (h0 : insF p.e = 0) :
    Calls Tryz.prog 112 #[.pointer (some ⟨b, o, none⟩), .int .i64 node, .int .i64 value] w fun e w' => ∃ q : InstQ, e = .returned (.agg (resC (frC p.e node value) 0 false false 0 q)) ∧ q.e = frI p.e node value ∧ instK.own w' q ∧ (instK.foot q).Nodup ∧ (∀ k ∈ instK.foot q, w.heap.size ≤ k) ∧ Below w.heap.size w w' := by
  obtain ⟨hne, hro, hd0⟩ := ins_low h0
  obtain ⟨hwel, ⟨h1, h4⟩, hd3, hF, _⟩ := ins_ok h0
  have hco := fun w h => l6Copy_any p w h hl hne hro hd0
  have hrl : p.e.rounds.length = p.rounds.length := List.length_map _
  have hIR := inst_round hP 0 (by omega) hF
  have hLE := fun (q : InstQ) (hq : q.e = p.e) (r : Nat) (hr : r < p.e.rounds.length) => copy_len hq hwel r hr
  have HF := fr_facts p.e node value
  have HA : Hid (inB node 0 2 = false → atC p.e node 0 = 3) := fun hA => by
    unfold atC
    rw [if_pos h0, hA]
    rfl
  have HA2 : Hid (inB node 0 2 = true → atC p.e node 0 = 0) := fun hA => by
    unfold atC
    have : inB 0 0 ((p.e.rounds.length : Int) - 1) = true := by unfold inB; rw [decide_eq_true_eq]; omega
    rw [if_pos h0, hA, this]
    rfl
  have HPE : Hid (∀ (q : InstQ), q.e = p.e → ∀ r n v hq, (q.setR r n v hq).e = ⟨p.e.has, p.e.batch, rstR p.e.rounds r n v, p.e.dec⟩) := fun q hq r n v hh => by rw [setR_e, hq]
  have HH : Hid (p.e.has = p.has) := (rfl : _ = _)
  clear hne hro hd0 hF h0
  generalize frC p.e node value = D at *
  generalize frI p.e node value = E at *
  generalize atC p.e node 0 = C at *
  replace HF : Hid _ := HF
  have hrd := hP.rd
  have hrb := fun (w' : World) hb => instK.rd_below (w' := w') hrd hb
  have HRL : Hid (p.e.rounds.length = p.rounds.length) := hrl
  clear hrl
  generalize hpe : p.e = pe at *
  clear hpe
  obtain ⟨has, vb, batch, vr, rounds, vd, dec⟩ := p
  obtain ⟨ba, bk, rfl⟩ : ∃ a c, vb = .slice a batch.length c := hrd.1.shape
  obtain ⟨va, vk, rfl⟩ : ∃ a c, vr = .slice a rounds.length c := hrd.2.1.shape
  obtain ⟨da, dk, rfl⟩ : ∃ a c, vd = .slice a dec.length c := hrd.2.2.shape
  dsimp only at hco hrb hIR HRL HH
  have hB : Below w.heap.size w (w.alloc (.cells #[.int .i64 0, .int .i64 0, .bool false, .bool false, .int .i64 0, .bool false, .slice none 0 0, .slice none 0 0, .slice none 0 0] 39)) := by go_grown
  have Rb := Blk.new w 39 #[.int .i64 0, .int .i64 0, .bool false, .bool false, .int .i64 0, .bool false, .slice none 0 0, .slice none 0 0, .slice none 0 0]
  cases hN : inB node 0 2 with
  | false =>
    have hC : C = 3 := HA.out hN
    have E1 : Hid (D = 3 ∧ E = ine0) := by
      obtain ⟨h1, h2⟩ := HF.out.1 (by rw [hC]; decide)
      exact ⟨h1.trans hC, h2⟩
    clear HF hIR hLE hco hC HA HA2
    go_enter Tryz.func112, Tryz.ntmps112
    go_wp2_with (first | (go_at_call 169; refine (l6Node_any _ _).mono ?_; rintro e w' ⟨rfl, rfl⟩) | (go_at_call 147; refine (l1In_any _ _ _ _).mono ?_; rintro e w' ⟨rfl, rfl⟩))
    refine (l6Bad_any 3 _).mono ?_
    rintro e w8 ⟨rfl, hb8⟩
    replace hB := hB.trans (hb8.mono hB.size)
    replace Rb := Rb.below hb8
    clear hb8
    have Rr := Rb.row #[.int .i64 3, .int .i64 0, .bool false, .bool false, .int .i64 0, .bool false, .slice none 0 0, .slice none 0 0, .slice none 0 0]
    have hBr := below_row hB (g := w.heap.size) (by omega) #[.int .i64 3, .int .i64 0, .bool false, .bool false, .int .i64 0, .bool false, .slice none 0 0, .slice none 0 0, .slice none 0 0]
    have hsr : (Tryz.prog.info? 39).map (·.size) = some (#[.int .i64 3, .int .i64 0, .bool false, .bool false, .int .i64 0, .bool false, .slice none 0 0, .slice none 0 0, .slice none 0 0] : Array Value).size := sz_res
    go_wp2_with (first | (refine st_row (by kernel_rfl) 39 _ _ rfl _ #[.int .i64 3, .int .i64 0, .bool false, .bool false, .int .i64 0, .bool false, .slice none 0 0, .slice none 0 0, .slice none 0 0] rfl rfl 39 _ Rb hsr rfl (by simp [Value.oneCell']) ?_))
    have q0 := Rr.cell 0 _ rfl
    have q1 := Rr.cell 1 _ rfl
    have q2 := Rr.cell 2 _ rfl
    have q3 := Rr.cell 3 _ rfl
    have q4 := Rr.cell 4 _ rfl
    have q5 := Rr.cell 5 _ rfl
    have q6 := Rr.cell 6 _ rfl
    have q7 := Rr.cell 7 _ rfl
    have q8 := Rr.cell 8 _ rfl
    exact bodyPost_ret (v := .agg #[.int .i64 3, .int .i64 0, .bool false, .bool false, .int .i64 0, .bool false, .slice none 0 0, .slice none 0 0, .slice none 0 0]) (by simp [results, Tryz.results112, go_sem, q0, q1, q2, q3, q4, q5, q6, q7, q8]) rfl ⟨inst0, by rw [E1.out.1]; rfl, E1.out.2.symm, inst0_own _, inst0_nd, fun k hk => by rw [inst0_ft] at hk; simp at hk, hBr⟩

  | true =>
    obtain ⟨hi0, n, rfl, hn, hr, f3, f6, f10, f0⟩ := HF.out.2 (HA2.out hN)
    rw [HH.out] at f10 f0
    have F3 : Hid _ := f3
    have F6 : Hid _ := f6
    have F10 : Hid _ := f10
    have F0 : Hid _ := f0
    clear hi0 f3 f6 f10 f0 HF HA HA2
    cases hV : inB value 0 1 with
    | false =>
      have E1 : Hid (D = 3 ∧ E = ine0) := F3.out hV
      clear F3 F6 F10 F0 hLE hco hIR
      go_enter Tryz.func112, Tryz.ntmps112
      go_wp2_with (first | (go_at_call 169; refine (l6Node_any _ _).mono ?_; rintro e w' ⟨rfl, rfl⟩) | (go_at_call 147; refine (l1In_any _ _ _ _).mono ?_; rintro e w' ⟨rfl, rfl⟩))
      refine (l6Bad_any 3 _).mono ?_
      rintro e w8 ⟨rfl, hb8⟩
      replace hB := hB.trans (hb8.mono hB.size)
      replace Rb := Rb.below hb8
      clear hb8
      have Rr := Rb.row #[.int .i64 3, .int .i64 0, .bool false, .bool false, .int .i64 0, .bool false, .slice none 0 0, .slice none 0 0, .slice none 0 0]
      have hBr := below_row hB (g := w.heap.size) (by omega) #[.int .i64 3, .int .i64 0, .bool false, .bool false, .int .i64 0, .bool false, .slice none 0 0, .slice none 0 0, .slice none 0 0]
      have hsr : (Tryz.prog.info? 39).map (·.size) = some (#[.int .i64 3, .int .i64 0, .bool false, .bool false, .int .i64 0, .bool false, .slice none 0 0, .slice none 0 0, .slice none 0 0] : Array Value).size := sz_res
      go_wp2_with (first | (refine st_row (by kernel_rfl) 39 _ _ rfl _ #[.int .i64 3, .int .i64 0, .bool false, .bool false, .int .i64 0, .bool false, .slice none 0 0, .slice none 0 0, .slice none 0 0] rfl rfl 39 _ Rb hsr rfl (by simp [Value.oneCell']) ?_))
      have q0 := Rr.cell 0 _ rfl
      have q1 := Rr.cell 1 _ rfl
      have q2 := Rr.cell 2 _ rfl
      have q3 := Rr.cell 3 _ rfl
      have q4 := Rr.cell 4 _ rfl
      have q5 := Rr.cell 5 _ rfl
      have q6 := Rr.cell 6 _ rfl
      have q7 := Rr.cell 7 _ rfl
      have q8 := Rr.cell 8 _ rfl
      exact bodyPost_ret (v := .agg #[.int .i64 3, .int .i64 0, .bool false, .bool false, .int .i64 0, .bool false, .slice none 0 0, .slice none 0 0, .slice none 0 0]) (by simp [results, Tryz.results112, go_sem, q0, q1, q2, q3, q4, q5, q6, q7, q8]) rfl ⟨inst0, by rw [E1.out.1]; rfl, E1.out.2.symm, inst0_own _, inst0_nd, fun k hk => by rw [inst0_ft] at hk; simp at hk, hBr⟩

    | true =>
      obtain ⟨rb, ro, vk', xb, xo, xc, yb, yo, yc, hvr, k0, _, kx, _, _, _⟩ := hIR
      simp only [Value.slice.injEq, true_and] at hvr
      obtain ⟨rfl, rfl⟩ := hvr
      replace kx := kx n hn
      rw [Nat.zero_mul, Nat.add_zero] at k0
      replace k0 := cellB k0 hB
      replace kx := cellB kx hB
      have hPW := hP.below hB
      obtain ⟨c0, c1, c2, c3⟩ := hPW.box
      dsimp only at c0 c1 c2 c3
      have hr4 : (0 : Int) < rounds.length := by have := HRL.out; omega
      have hn3 : (n : Int) < 3 := by omega
      generalize hre : repA pe.rounds 0 n = RE at *
      clear hre
      by_cases hp4 : RE = 3
      case neg =>
        have E1 : Hid (D = 6 ∧ E = ine0) := F6.out hV hp4
        have hq4 : (RE != 3) = true := by simpa using hp4
        clear F3 F6 F10 F0 hp4 hLE hco
        go_enter Tryz.func112, Tryz.ntmps112
        go_wp2_with (first | (go_at_call 169; refine (l6Node_any _ _).mono ?_; rintro e w' ⟨rfl, rfl⟩) | (go_at_call 147; refine (l1In_any _ _ _ _).mono ?_; rintro e w' ⟨rfl, rfl⟩))
        refine (l6Bad_any 6 _).mono ?_
        rintro e w8 ⟨rfl, hb8⟩
        replace hB := hB.trans (hb8.mono hB.size)
        replace Rb := Rb.below hb8
        clear hb8
        have Rr := Rb.row #[.int .i64 6, .int .i64 0, .bool false, .bool false, .int .i64 0, .bool false, .slice none 0 0, .slice none 0 0, .slice none 0 0]
        have hBr := below_row hB (g := w.heap.size) (by omega) #[.int .i64 6, .int .i64 0, .bool false, .bool false, .int .i64 0, .bool false, .slice none 0 0, .slice none 0 0, .slice none 0 0]
        have hsr : (Tryz.prog.info? 39).map (·.size) = some (#[.int .i64 6, .int .i64 0, .bool false, .bool false, .int .i64 0, .bool false, .slice none 0 0, .slice none 0 0, .slice none 0 0] : Array Value).size := sz_res
        go_wp2_with (first | (refine st_row (by kernel_rfl) 39 _ _ rfl _ #[.int .i64 6, .int .i64 0, .bool false, .bool false, .int .i64 0, .bool false, .slice none 0 0, .slice none 0 0, .slice none 0 0] rfl rfl 39 _ Rb hsr rfl (by simp [Value.oneCell']) ?_))
        have q0 := Rr.cell 0 _ rfl
        have q1 := Rr.cell 1 _ rfl
        have q2 := Rr.cell 2 _ rfl
        have q3 := Rr.cell 3 _ rfl
        have q4 := Rr.cell 4 _ rfl
        have q5 := Rr.cell 5 _ rfl
        have q6 := Rr.cell 6 _ rfl
        have q7 := Rr.cell 7 _ rfl
        have q8 := Rr.cell 8 _ rfl
        exact bodyPost_ret (v := .agg #[.int .i64 6, .int .i64 0, .bool false, .bool false, .int .i64 0, .bool false, .slice none 0 0, .slice none 0 0, .slice none 0 0]) (by simp [results, Tryz.results112, go_sem, q0, q1, q2, q3, q4, q5, q6, q7, q8]) rfl ⟨inst0, by rw [E1.out.1]; rfl, E1.out.2.symm, inst0_own _, inst0_nd, fun k hk => by rw [inst0_ft] at hk; simp at hk, hBr⟩

      case pos =>
        have F1 : Hid ((value = 1 → has = false → D = 10 ∧ E = ine0) ∧ (¬ (value = 1 ∧ has = false) → D = 0 ∧ E = ⟨has, pe.batch, rstR pe.rounds 0 n value, pe.dec⟩)) := ⟨F10.out hV hp4, F0.out hV hp4⟩
        rw [← HH.out] at F1
        have hq4 : (RE != 3) = false := by rw [hp4]; rfl
        clear F3 F6 F10 F0 hp4
        by_cases hbad : value = 1 ∧ has = false
        case pos =>
          have E1 : Hid (D = 10 ∧ E = ine0) := F1.out.1 hbad.1 (by rw [HH.out]; exact hbad.2)
          obtain ⟨rfl, rfl⟩ := hbad
          clear F1 hLE hco
          go_enter Tryz.func112, Tryz.ntmps112
          go_wp2_with (first | (go_at_call 169; refine (l6Node_any _ _).mono ?_; rintro e w' ⟨rfl, rfl⟩) | (go_at_call 147; refine (l1In_any _ _ _ _).mono ?_; rintro e w' ⟨rfl, rfl⟩))
          refine (l6Bad_any 10 _).mono ?_
          rintro e w8 ⟨rfl, hb8⟩
          replace hB := hB.trans (hb8.mono hB.size)
          replace Rb := Rb.below hb8
          clear hb8
          have Rr := Rb.row #[.int .i64 10, .int .i64 0, .bool false, .bool false, .int .i64 0, .bool false, .slice none 0 0, .slice none 0 0, .slice none 0 0]
          have hBr := below_row hB (g := w.heap.size) (by omega) #[.int .i64 10, .int .i64 0, .bool false, .bool false, .int .i64 0, .bool false, .slice none 0 0, .slice none 0 0, .slice none 0 0]
          have hsr : (Tryz.prog.info? 39).map (·.size) = some (#[.int .i64 10, .int .i64 0, .bool false, .bool false, .int .i64 0, .bool false, .slice none 0 0, .slice none 0 0, .slice none 0 0] : Array Value).size := sz_res
          go_wp2_with (first | (refine st_row (by kernel_rfl) 39 _ _ rfl _ #[.int .i64 10, .int .i64 0, .bool false, .bool false, .int .i64 0, .bool false, .slice none 0 0, .slice none 0 0, .slice none 0 0] rfl rfl 39 _ Rb hsr rfl (by simp [Value.oneCell']) ?_))
          have q0 := Rr.cell 0 _ rfl
          have q1 := Rr.cell 1 _ rfl
          have q2 := Rr.cell 2 _ rfl
          have q3 := Rr.cell 3 _ rfl
          have q4 := Rr.cell 4 _ rfl
          have q5 := Rr.cell 5 _ rfl
          have q6 := Rr.cell 6 _ rfl
          have q7 := Rr.cell 7 _ rfl
          have q8 := Rr.cell 8 _ rfl
          exact bodyPost_ret (v := .agg #[.int .i64 10, .int .i64 0, .bool false, .bool false, .int .i64 0, .bool false, .slice none 0 0, .slice none 0 0, .slice none 0 0]) (by simp [results, Tryz.results112, go_sem, q0, q1, q2, q3, q4, q5, q6, q7, q8]) rfl ⟨inst0, by rw [E1.out.1]; rfl, E1.out.2.symm, inst0_own _, inst0_nd, fun k hk => by rw [inst0_ft] at hk; simp at hk, hBr⟩

        case neg =>
          have E1 : Hid (D = 0 ∧ E = ⟨pe.has, pe.batch, rstR pe.rounds 0 n value, pe.dec⟩) := F1.out.2 (by rw [HH.out]; exact hbad)
          clear F1
          by_cases hv1 : value = 1
          · have hh : has = true := by cases has with | true => rfl | false => exact absurd ⟨hv1, rfl⟩ hbad
            subst hh
            have hv1' : (value == 1) = true := by rw [hv1]; rfl
            clear hbad hv1
            go_enter Tryz.func112, Tryz.ntmps112
            have hPW2 := hP.below hB
            obtain ⟨d0, d1, d2, d3⟩ := hPW2.box
            dsimp only at d0 d1 d2 d3
            go_wp2_with (first | (go_at_call 169; refine (l6Node_any _ _).mono ?_; rintro e w' ⟨rfl, rfl⟩) | (go_at_call 147; refine (l1In_any _ _ _ _).mono ?_; rintro e w' ⟨rfl, rfl⟩))
            clear c0 c1 c2 c3 d0 d1 d2 d3 kx k0
            refine (hco _ (hrb _ hB)).mono ?_
            rintro e w3 ⟨q, rfl, eq, oq, nq, gq, hb3⟩
            have hW := Rb.lt
            replace Rb := Rb.below hb3
            replace hB := hB.trans (hb3.mono hB.size)
            obtain ⟨hrq, hpq, _⟩ := hLE q eq 0 hr
            have HQE := HPE.out q eq 0 n value hrq
            have M := instK.own_lt oq
            obtain ⟨qh, qb, qbs, qr, qrs, qd, qds⟩ := q
            obtain ⟨s1, t1, rfl⟩ : ∃ a c, qb = .slice a qbs.length c := oq.1.shape
            obtain ⟨s2, t2, rfl⟩ : ∃ a c, qr = .slice a qrs.length c := oq.2.1.shape
            obtain ⟨s3, t3, rfl⟩ : ∃ a c, qd = .slice a qds.length c := oq.2.2.shape
            obtain ⟨gr, rfl⟩ := oq.2.1.blkOf (by exact Nat.lt_of_le_of_lt (Nat.zero_le _) hrq)
            replace hrq : 0 < qrs.length := hrq
            have hrq3 : (0 : Int) < qrs.length := by omega
            obtain ⟨g5, cap5, hv5, hg5, kc, kf, own5, foot5⟩ := own_setR oq nq 0 n hrq (by show n < (qrs[0]).rep.length; have : (qrs[0]).rep.length = 3 := hpq; omega) value
            have hpl : (qrs[0]).rep.length = 3 := hpq
            rw [show (InstQ.rounds (⟨qh, .slice s1 qbs.length t1, qbs, .slice (some ⟨gr, 0, none⟩) qrs.length t2, qrs, .slice s3 qds.length t3, qds⟩ : InstQ))[0] = qrs[0] from rfl, hpl] at hv5
            have hcr := oq.2.1.cell 0 hrq 0 (.slice (some ⟨g5, 0, none⟩) 3 cap5) (by show ([(qrs[0]).vr, (qrs[0]).vp] : List Value)[0]? = _; rw [← hv5]; rfl)
            have hcr2 : w3.cell? ⟨gr, 0, none⟩ = some (.slice (some ⟨g5, 0, none⟩) 3 cap5) := hcr.1
            have hg5l : w.heap.size + 1 ≤ g5 ∧ g5 < w3.heap.size := ⟨by have := gq g5 hg5; omega, M g5 hg5⟩
            have hbA : Below (w3.setCell ⟨g5, n, none⟩ (iv value)).heap.size (w3.setCell ⟨g5, n, none⟩ (iv value)) ((w3.setCell ⟨g5, n, none⟩ (iv value)).alloc (.cells #[.bool qh, .slice s1 qbs.length t1, .slice (some ⟨gr, 0, none⟩) qrs.length t2, .slice s3 qds.length t3] 28)) := by go_grown
            have R3 := (Rb.other (b' := g5) (by omega) n (iv value)).below hbA
            have hBg : Below w.heap.size w ((w3.setCell ⟨g5, n, none⟩ (iv value)).alloc (.cells #[.bool qh, .slice s1 qbs.length t1, .slice (some ⟨gr, 0, none⟩) qrs.length t2, .slice s3 qds.length t3] 28)) := by
              have h1 : Below w.heap.size w (w3.setCell ⟨g5, n, none⟩ (iv value)) := hB.setCell (p := ⟨g5, n, none⟩) (by show w.heap.size ≤ g5; omega) _
              exact h1.trans (hbA.mono h1.size)
            replace own5 := instK.own_out (F := []) own5 (Out.of_below hbA) (fun _ _ => by simp)
            have L5 : ∀ k ∈ instK.foot (InstQ.setR (⟨qh, .slice s1 qbs.length t1, qbs, .slice (some ⟨gr, 0, none⟩) qrs.length t2, qrs, .slice s3 qds.length t3, qds⟩ : InstQ) 0 n value hrq), w.heap.size < k := fun k hk => by rw [foot5] at hk; have := gq k hk; omega
            have N5 : (instK.foot (InstQ.setR (⟨qh, .slice s1 qbs.length t1, qbs, .slice (some ⟨gr, 0, none⟩) qrs.length t2, qrs, .slice s3 qds.length t3, qds⟩ : InstQ) 0 n value hrq)).Nodup := by rw [foot5]; exact nq
            have hous : ∀ cs, instK.own (((w3.setCell ⟨g5, n, none⟩ (iv value)).alloc (.cells #[.bool qh, .slice s1 qbs.length t1, .slice (some ⟨gr, 0, none⟩) qrs.length t2, .slice s3 qds.length t3] 28)).setRow w.heap.size cs) (InstQ.setR (⟨qh, .slice s1 qbs.length t1, qbs, .slice (some ⟨gr, 0, none⟩) qrs.length t2, qrs, .slice s3 qds.length t3, qds⟩ : InstQ) 0 n value hrq) := fun cs => instK.own_out own5 (out_row _ w.heap.size cs) (fun k hk => by have := L5 k hk; simp only [List.mem_singleton]; omega)
            have HQ : Hid ((InstQ.setR (⟨qh, .slice s1 qbs.length t1, qbs, .slice (some ⟨gr, 0, none⟩) qrs.length t2, qrs, .slice s3 qds.length t3, qds⟩ : InstQ) 0 n value hrq).e = E ∧ (instK.foot (InstQ.setR (⟨qh, .slice s1 qbs.length t1, qbs, .slice (some ⟨gr, 0, none⟩) qrs.length t2, qrs, .slice s3 qds.length t3, qds⟩ : InstQ) 0 n value hrq)).Nodup ∧ (∀ k ∈ instK.foot (InstQ.setR (⟨qh, .slice s1 qbs.length t1, qbs, .slice (some ⟨gr, 0, none⟩) qrs.length t2, qrs, .slice s3 qds.length t3, qds⟩ : InstQ) 0 n value hrq), w.heap.size ≤ k) ∧ ∀ cs, instK.own (((w3.setCell ⟨g5, n, none⟩ (iv value)).alloc (.cells #[.bool qh, .slice s1 qbs.length t1, .slice (some ⟨gr, 0, none⟩) qrs.length t2, .slice s3 qds.length t3] 28)).setRow w.heap.size cs) (InstQ.setR (⟨qh, .slice s1 qbs.length t1, qbs, .slice (some ⟨gr, 0, none⟩) qrs.length t2, qrs, .slice s3 qds.length t3, qds⟩ : InstQ) 0 n value hrq)) := ⟨by rw [E1.out.2]; exact HQE, N5, fun k hk => by have := L5 k hk; omega, hous⟩
            have HD0 : Hid (D = 0) := E1.out.1
            obtain ⟨old, kc2⟩ : ∃ z, w3.cell? ⟨g5, n, none⟩ = some (iv z) := ⟨_, kc⟩
            have hAl : Below w3.heap.size w3 (w3.alloc (.cells #[.bool qh, .slice s1 qbs.length t1, .slice (some ⟨gr, 0, none⟩) qrs.length t2, .slice s3 qds.length t3] 28)) := by go_grown
            have hcr3 := cellB hcr2 hAl
            have hgrl : gr < w3.heap.size := World.block_lt_of_cell? w3 ⟨gr, 0, none⟩ hcr2
            clear kc hAl
            clear Rb hB own5 foot5 L5 N5 hous HQE E1 oq nq gq eq hb3 hco M hcr hbA
            have Rr := R3.row #[.int .i64 0, .int .i64 0, .bool false, .bool false, .int .i64 0, .bool qh, .slice s1 qbs.length t1, .slice (some ⟨gr, 0, none⟩) qrs.length t2, .slice s3 qds.length t3]
            have hBr := below_row hBg (g := w.heap.size) (Nat.le_refl _) #[.int .i64 0, .int .i64 0, .bool false, .bool false, .int .i64 0, .bool qh, .slice s1 qbs.length t1, .slice (some ⟨gr, 0, none⟩) qrs.length t2, .slice s3 qds.length t3]
            have hsr : (Tryz.prog.info? 39).map (·.size) = some (#[.int .i64 0, .int .i64 0, .bool false, .bool false, .int .i64 0, .bool qh, .slice s1 qbs.length t1, .slice (some ⟨gr, 0, none⟩) qrs.length t2, .slice s3 qds.length t3] : Array Value).size := sz_res
            go_wp2_with (first | (refine st_row (by kernel_rfl) 39 _ _ rfl _ #[.int .i64 0, .int .i64 0, .bool false, .bool false, .int .i64 0, .bool qh, .slice s1 qbs.length t1, .slice (some ⟨gr, 0, none⟩) qrs.length t2, .slice s3 qds.length t3] rfl rfl 39 _ R3 hsr rfl (by simp [Value.oneCell']) ?_))
            have q0 := Rr.cell 0 _ rfl
            have q1 := Rr.cell 1 _ rfl
            have q2 := Rr.cell 2 _ rfl
            have q3 := Rr.cell 3 _ rfl
            have q4 := Rr.cell 4 _ rfl
            have q5 := Rr.cell 5 _ rfl
            have q6 := Rr.cell 6 _ rfl
            have q7 := Rr.cell 7 _ rfl
            have q8 := Rr.cell 8 _ rfl
            exact bodyPost_ret (v := .agg #[.int .i64 0, .int .i64 0, .bool false, .bool false, .int .i64 0, .bool qh, .slice s1 qbs.length t1, .slice (some ⟨gr, 0, none⟩) qrs.length t2, .slice s3 qds.length t3]) (by simp [results, Tryz.results112, go_sem, q0, q1, q2, q3, q4, q5, q6, q7, q8]) rfl ⟨InstQ.setR (⟨qh, .slice s1 qbs.length t1, qbs, .slice (some ⟨gr, 0, none⟩) qrs.length t2, qrs, .slice s3 qds.length t3, qds⟩ : InstQ) 0 n value hrq, by rw [HD0.out]; rfl, HQ.out.1, HQ.out.2.2.2 _, HQ.out.2.1, HQ.out.2.2.1, hBr⟩

          · have hv1' : (value == 1) = false := by simpa using hv1
            clear hbad hv1
            go_enter Tryz.func112, Tryz.ntmps112
            have hPW2 := hP.below hB
            obtain ⟨d0, d1, d2, d3⟩ := hPW2.box
            dsimp only at d0 d1 d2 d3
            go_wp2_with (first | (go_at_call 169; refine (l6Node_any _ _).mono ?_; rintro e w' ⟨rfl, rfl⟩) | (go_at_call 147; refine (l1In_any _ _ _ _).mono ?_; rintro e w' ⟨rfl, rfl⟩))
            clear c0 c1 c2 c3 d0 d1 d2 d3 kx k0
            refine (hco _ (hrb _ hB)).mono ?_
            rintro e w3 ⟨q, rfl, eq, oq, nq, gq, hb3⟩
            have hW := Rb.lt
            replace Rb := Rb.below hb3
            replace hB := hB.trans (hb3.mono hB.size)
            obtain ⟨hrq, hpq, _⟩ := hLE q eq 0 hr
            have HQE := HPE.out q eq 0 n value hrq
            have M := instK.own_lt oq
            obtain ⟨qh, qb, qbs, qr, qrs, qd, qds⟩ := q
            obtain ⟨s1, t1, rfl⟩ : ∃ a c, qb = .slice a qbs.length c := oq.1.shape
            obtain ⟨s2, t2, rfl⟩ : ∃ a c, qr = .slice a qrs.length c := oq.2.1.shape
            obtain ⟨s3, t3, rfl⟩ : ∃ a c, qd = .slice a qds.length c := oq.2.2.shape
            obtain ⟨gr, rfl⟩ := oq.2.1.blkOf (by exact Nat.lt_of_le_of_lt (Nat.zero_le _) hrq)
            replace hrq : 0 < qrs.length := hrq
            have hrq3 : (0 : Int) < qrs.length := by omega
            obtain ⟨g5, cap5, hv5, hg5, kc, kf, own5, foot5⟩ := own_setR oq nq 0 n hrq (by show n < (qrs[0]).rep.length; have : (qrs[0]).rep.length = 3 := hpq; omega) value
            have hpl : (qrs[0]).rep.length = 3 := hpq
            rw [show (InstQ.rounds (⟨qh, .slice s1 qbs.length t1, qbs, .slice (some ⟨gr, 0, none⟩) qrs.length t2, qrs, .slice s3 qds.length t3, qds⟩ : InstQ))[0] = qrs[0] from rfl, hpl] at hv5
            have hcr := oq.2.1.cell 0 hrq 0 (.slice (some ⟨g5, 0, none⟩) 3 cap5) (by show ([(qrs[0]).vr, (qrs[0]).vp] : List Value)[0]? = _; rw [← hv5]; rfl)
            have hcr2 : w3.cell? ⟨gr, 0, none⟩ = some (.slice (some ⟨g5, 0, none⟩) 3 cap5) := hcr.1
            have hg5l : w.heap.size + 1 ≤ g5 ∧ g5 < w3.heap.size := ⟨by have := gq g5 hg5; omega, M g5 hg5⟩
            have hbA : Below (w3.setCell ⟨g5, n, none⟩ (iv value)).heap.size (w3.setCell ⟨g5, n, none⟩ (iv value)) ((w3.setCell ⟨g5, n, none⟩ (iv value)).alloc (.cells #[.bool qh, .slice s1 qbs.length t1, .slice (some ⟨gr, 0, none⟩) qrs.length t2, .slice s3 qds.length t3] 28)) := by go_grown
            have R3 := (Rb.other (b' := g5) (by omega) n (iv value)).below hbA
            have hBg : Below w.heap.size w ((w3.setCell ⟨g5, n, none⟩ (iv value)).alloc (.cells #[.bool qh, .slice s1 qbs.length t1, .slice (some ⟨gr, 0, none⟩) qrs.length t2, .slice s3 qds.length t3] 28)) := by
              have h1 : Below w.heap.size w (w3.setCell ⟨g5, n, none⟩ (iv value)) := hB.setCell (p := ⟨g5, n, none⟩) (by show w.heap.size ≤ g5; omega) _
              exact h1.trans (hbA.mono h1.size)
            replace own5 := instK.own_out (F := []) own5 (Out.of_below hbA) (fun _ _ => by simp)
            have L5 : ∀ k ∈ instK.foot (InstQ.setR (⟨qh, .slice s1 qbs.length t1, qbs, .slice (some ⟨gr, 0, none⟩) qrs.length t2, qrs, .slice s3 qds.length t3, qds⟩ : InstQ) 0 n value hrq), w.heap.size < k := fun k hk => by rw [foot5] at hk; have := gq k hk; omega
            have N5 : (instK.foot (InstQ.setR (⟨qh, .slice s1 qbs.length t1, qbs, .slice (some ⟨gr, 0, none⟩) qrs.length t2, qrs, .slice s3 qds.length t3, qds⟩ : InstQ) 0 n value hrq)).Nodup := by rw [foot5]; exact nq
            have hous : ∀ cs, instK.own (((w3.setCell ⟨g5, n, none⟩ (iv value)).alloc (.cells #[.bool qh, .slice s1 qbs.length t1, .slice (some ⟨gr, 0, none⟩) qrs.length t2, .slice s3 qds.length t3] 28)).setRow w.heap.size cs) (InstQ.setR (⟨qh, .slice s1 qbs.length t1, qbs, .slice (some ⟨gr, 0, none⟩) qrs.length t2, qrs, .slice s3 qds.length t3, qds⟩ : InstQ) 0 n value hrq) := fun cs => instK.own_out own5 (out_row _ w.heap.size cs) (fun k hk => by have := L5 k hk; simp only [List.mem_singleton]; omega)
            have HQ : Hid ((InstQ.setR (⟨qh, .slice s1 qbs.length t1, qbs, .slice (some ⟨gr, 0, none⟩) qrs.length t2, qrs, .slice s3 qds.length t3, qds⟩ : InstQ) 0 n value hrq).e = E ∧ (instK.foot (InstQ.setR (⟨qh, .slice s1 qbs.length t1, qbs, .slice (some ⟨gr, 0, none⟩) qrs.length t2, qrs, .slice s3 qds.length t3, qds⟩ : InstQ) 0 n value hrq)).Nodup ∧ (∀ k ∈ instK.foot (InstQ.setR (⟨qh, .slice s1 qbs.length t1, qbs, .slice (some ⟨gr, 0, none⟩) qrs.length t2, qrs, .slice s3 qds.length t3, qds⟩ : InstQ) 0 n value hrq), w.heap.size ≤ k) ∧ ∀ cs, instK.own (((w3.setCell ⟨g5, n, none⟩ (iv value)).alloc (.cells #[.bool qh, .slice s1 qbs.length t1, .slice (some ⟨gr, 0, none⟩) qrs.length t2, .slice s3 qds.length t3] 28)).setRow w.heap.size cs) (InstQ.setR (⟨qh, .slice s1 qbs.length t1, qbs, .slice (some ⟨gr, 0, none⟩) qrs.length t2, qrs, .slice s3 qds.length t3, qds⟩ : InstQ) 0 n value hrq)) := ⟨by rw [E1.out.2]; exact HQE, N5, fun k hk => by have := L5 k hk; omega, hous⟩
            have HD0 : Hid (D = 0) := E1.out.1
            obtain ⟨old, kc2⟩ : ∃ z, w3.cell? ⟨g5, n, none⟩ = some (iv z) := ⟨_, kc⟩
            have hAl : Below w3.heap.size w3 (w3.alloc (.cells #[.bool qh, .slice s1 qbs.length t1, .slice (some ⟨gr, 0, none⟩) qrs.length t2, .slice s3 qds.length t3] 28)) := by go_grown
            have hcr3 := cellB hcr2 hAl
            have hgrl : gr < w3.heap.size := World.block_lt_of_cell? w3 ⟨gr, 0, none⟩ hcr2
            clear kc hAl
            clear Rb hB own5 foot5 L5 N5 hous HQE E1 oq nq gq eq hb3 hco M hcr hbA
            have Rr := R3.row #[.int .i64 0, .int .i64 0, .bool false, .bool false, .int .i64 0, .bool qh, .slice s1 qbs.length t1, .slice (some ⟨gr, 0, none⟩) qrs.length t2, .slice s3 qds.length t3]
            have hBr := below_row hBg (g := w.heap.size) (Nat.le_refl _) #[.int .i64 0, .int .i64 0, .bool false, .bool false, .int .i64 0, .bool qh, .slice s1 qbs.length t1, .slice (some ⟨gr, 0, none⟩) qrs.length t2, .slice s3 qds.length t3]
            have hsr : (Tryz.prog.info? 39).map (·.size) = some (#[.int .i64 0, .int .i64 0, .bool false, .bool false, .int .i64 0, .bool qh, .slice s1 qbs.length t1, .slice (some ⟨gr, 0, none⟩) qrs.length t2, .slice s3 qds.length t3] : Array Value).size := sz_res
            go_wp2_with (first | (refine st_row (by kernel_rfl) 39 _ _ rfl _ #[.int .i64 0, .int .i64 0, .bool false, .bool false, .int .i64 0, .bool qh, .slice s1 qbs.length t1, .slice (some ⟨gr, 0, none⟩) qrs.length t2, .slice s3 qds.length t3] rfl rfl 39 _ R3 hsr rfl (by simp [Value.oneCell']) ?_))
            have q0 := Rr.cell 0 _ rfl
            have q1 := Rr.cell 1 _ rfl
            have q2 := Rr.cell 2 _ rfl
            have q3 := Rr.cell 3 _ rfl
            have q4 := Rr.cell 4 _ rfl
            have q5 := Rr.cell 5 _ rfl
            have q6 := Rr.cell 6 _ rfl
            have q7 := Rr.cell 7 _ rfl
            have q8 := Rr.cell 8 _ rfl
            exact bodyPost_ret (v := .agg #[.int .i64 0, .int .i64 0, .bool false, .bool false, .int .i64 0, .bool qh, .slice s1 qbs.length t1, .slice (some ⟨gr, 0, none⟩) qrs.length t2, .slice s3 qds.length t3]) (by simp [results, Tryz.results112, go_sem, q0, q1, q2, q3, q4, q5, q6, q7, q8]) rfl ⟨InstQ.setR (⟨qh, .slice s1 qbs.length t1, qbs, .slice (some ⟨gr, 0, none⟩) qrs.length t2, qrs, .slice s3 qds.length t3, qds⟩ : InstQ) 0 n value hrq, by rw [HD0.out]; rfl, HQ.out.1, HQ.out.2.2.2 _, HQ.out.2.1, HQ.out.2.2.1, hBr⟩


set_option maxHeartbeats 4000000 in
theorem specFirstReport_any (p : InstQ) (node value : Int) (w : World) (h : instK.rd w p) (hl : p.n ≤ 1048576) :
    Calls Tryz.prog 37 #[.agg #[.bool p.has, p.vb, p.vr, p.vd], .int .i64 node, .int .i64 value] w fun e w' => ∃ q : InstQ, e = .returned (.agg (resC (frC p.e node value) 0 false false 0 q)) ∧ q.e = frI p.e node value ∧ instK.own w' q ∧ (instK.foot q).Nodup ∧ (∀ k ∈ instK.foot q, w.heap.size ≤ k) ∧ Below w.heap.size w w' := by
  have hB : Below w.heap.size w ((w.alloc (.cells #[.bool p.has, p.vb, p.vr, p.vd] 28)).alloc (.cells #[.int .i64 0, .int .i64 0, .bool false, .bool false, .int .i64 0, .bool false, .slice none 0 0, .slice none 0 0, .slice none 0 0] 39)) := by go_grown
  have Rb := Blk.new (w.alloc (.cells #[.bool p.has, p.vb, p.vr, p.vd] 28)) 39 #[.int .i64 0, .int .i64 0, .bool false, .bool false, .int .i64 0, .bool false, .slice none 0 0, .slice none 0 0, .slice none 0 0]
  rw [World.size_alloc] at Rb
  have hws : w.heap.size + 2 ≤ ((w.alloc (.cells #[.bool p.has, p.vb, p.vr, p.vd] 28)).alloc (.cells #[.int .i64 0, .int .i64 0, .bool false, .bool false, .int .i64 0, .bool false, .slice none 0 0, .slice none 0 0, .slice none 0 0] 39)).heap.size := by simp
  have hP : InstP ((w.alloc (.cells #[.bool p.has, p.vb, p.vr, p.vd] 28)).alloc (.cells #[.int .i64 0, .int .i64 0, .bool false, .bool false, .int .i64 0, .bool false, .slice none 0 0, .slice none 0 0, .slice none 0 0] 39)) w.heap.size 0 p := ⟨(box4_new w _ _ _ _ 28).below (by go_grown), instK.rd_below h hB⟩
  have hf1 := l6Fault_any w.heap.size 0 p _ hP hl
  have hst := fun w' hP hb h0 => l6First_any w.heap.size 0 p node value w' hP hb hl h0
  have HC : Hid (insF p.e ≠ 0 → frC p.e node value = insF p.e ∧ frI p.e node value = ine0) := fun h0 => (by have e : atC p.e node 0 = insF p.e := if_neg h0; have := (fr_facts p.e node value).1 (by rw [e]; exact h0); rw [e] at this; exact this)
  generalize frC p.e node value = D at *
  generalize frI p.e node value = E at *
  generalize insF p.e = C at *
  go_enter Tryz.func37, Tryz.ntmps37
  go_wp2_with fail
  generalize (w.alloc (.cells #[.bool p.has, p.vb, p.vr, p.vd] 28)).alloc (.cells #[.int .i64 0, .int .i64 0, .bool false, .bool false, .int .i64 0, .bool false, .slice none 0 0, .slice none 0 0, .slice none 0 0] 39) = W at *
  refine hf1.mono ?_
  rintro e w1 ⟨rfl, hb1⟩
  replace hB := hB.trans (hb1.mono hB.size)
  replace Rb := Rb.below hb1
  have hP1 := hP.below hb1
  have hws1 : w.heap.size + 2 ≤ w1.heap.size := by have := hb1.size; omega
  clear hf1 hb1 hP
  by_cases h0 : C = 0
  case neg =>
    have E1 : Hid (D = C ∧ E = ine0) := HC.out h0
    have h0' : (C != 0) = true := by simpa using h0
    clear HC h0 hst
    go_wp2_with fail
    refine (l6Bad_any C _).mono ?_
    rintro e w8 ⟨rfl, hb8⟩
    replace hB := hB.trans (hb8.mono hB.size)
    replace Rb := Rb.below hb8
    clear hb8
    have Rr := Rb.row #[.int .i64 C, .int .i64 0, .bool false, .bool false, .int .i64 0, .bool false, .slice none 0 0, .slice none 0 0, .slice none 0 0]
    have hBr := below_row hB (g := w.heap.size + 1) (by omega) #[.int .i64 C, .int .i64 0, .bool false, .bool false, .int .i64 0, .bool false, .slice none 0 0, .slice none 0 0, .slice none 0 0]
    have hsr : (Tryz.prog.info? 39).map (·.size) = some (#[.int .i64 C, .int .i64 0, .bool false, .bool false, .int .i64 0, .bool false, .slice none 0 0, .slice none 0 0, .slice none 0 0] : Array Value).size := sz_res
    go_wp2_with (first | (refine st_row (by kernel_rfl) 39 _ _ rfl _ #[.int .i64 C, .int .i64 0, .bool false, .bool false, .int .i64 0, .bool false, .slice none 0 0, .slice none 0 0, .slice none 0 0] rfl rfl 39 _ Rb hsr rfl (by simp [Value.oneCell']) ?_))
    have q0 := Rr.cell 0 _ rfl
    have q1 := Rr.cell 1 _ rfl
    have q2 := Rr.cell 2 _ rfl
    have q3 := Rr.cell 3 _ rfl
    have q4 := Rr.cell 4 _ rfl
    have q5 := Rr.cell 5 _ rfl
    have q6 := Rr.cell 6 _ rfl
    have q7 := Rr.cell 7 _ rfl
    have q8 := Rr.cell 8 _ rfl
    exact bodyPost_ret (v := .agg #[.int .i64 C, .int .i64 0, .bool false, .bool false, .int .i64 0, .bool false, .slice none 0 0, .slice none 0 0, .slice none 0 0]) (by simp [results, Tryz.results37, go_sem, q0, q1, q2, q3, q4, q5, q6, q7, q8]) rfl ⟨inst0, by rw [E1.out.1]; rfl, E1.out.2.symm, inst0_own _, inst0_nd, fun k hk => by rw [inst0_ft] at hk; simp at hk, hBr⟩

  case pos =>
    subst h0
    clear HC
    go_wp2_with fail
    refine (hst w1 hP1 (by omega) (by trivial)).mono ?_
    rintro e w2 ⟨q, rfl, eq, oq, nq, gq, hb2⟩
    replace Rb := Rb.below hb2
    replace hB := hB.trans (hb2.mono hB.size)
    have HQ : Hid (q.e = E ∧ (instK.foot q).Nodup ∧ (∀ k ∈ instK.foot q, w.heap.size ≤ k) ∧ ∀ cs, instK.own (w2.setRow (w.heap.size + 1) cs) q) := ⟨eq, nq, fun k hk => by have := gq k hk; omega, fun cs => instK.own_out oq (out_row w2 (w.heap.size + 1) cs) (fun k hk => by have := gq k hk; simp only [List.mem_singleton]; omega)⟩
    clear hst hP1 hb2 eq nq gq
    obtain ⟨qh, qb, qbs, qr, qrs, qd, qds⟩ := q
    obtain ⟨s1, t1, rfl⟩ : ∃ a c, qb = .slice a qbs.length c := oq.1.shape
    obtain ⟨s2, t2, rfl⟩ : ∃ a c, qr = .slice a qrs.length c := oq.2.1.shape
    obtain ⟨s3, t3, rfl⟩ : ∃ a c, qd = .slice a qds.length c := oq.2.2.shape
    have Rr := Rb.row #[.int .i64 D, .int .i64 0, .bool false, .bool false, .int .i64 0, .bool qh, .slice s1 qbs.length t1, .slice s2 qrs.length t2, .slice s3 qds.length t3]
    have hBr := below_row hB (g := w.heap.size + 1) (by omega) #[.int .i64 D, .int .i64 0, .bool false, .bool false, .int .i64 0, .bool qh, .slice s1 qbs.length t1, .slice s2 qrs.length t2, .slice s3 qds.length t3]
    have hsr : (Tryz.prog.info? 39).map (·.size) = some (#[.int .i64 D, .int .i64 0, .bool false, .bool false, .int .i64 0, .bool qh, .slice s1 qbs.length t1, .slice s2 qrs.length t2, .slice s3 qds.length t3] : Array Value).size := sz_res
    clear oq
    go_wp2_with (first | (refine st_row (by kernel_rfl) 39 _ _ rfl _ #[.int .i64 D, .int .i64 0, .bool false, .bool false, .int .i64 0, .bool qh, .slice s1 qbs.length t1, .slice s2 qrs.length t2, .slice s3 qds.length t3] rfl rfl 39 _ Rb hsr rfl (by simp [Value.oneCell']) ?_))
    have q0 := Rr.cell 0 _ rfl
    have q1 := Rr.cell 1 _ rfl
    have q2 := Rr.cell 2 _ rfl
    have q3 := Rr.cell 3 _ rfl
    have q4 := Rr.cell 4 _ rfl
    have q5 := Rr.cell 5 _ rfl
    have q6 := Rr.cell 6 _ rfl
    have q7 := Rr.cell 7 _ rfl
    have q8 := Rr.cell 8 _ rfl
    exact bodyPost_ret (v := .agg #[.int .i64 D, .int .i64 0, .bool false, .bool false, .int .i64 0, .bool qh, .slice s1 qbs.length t1, .slice s2 qrs.length t2, .slice s3 qds.length t3]) (by simp [results, Tryz.results37, go_sem, q0, q1, q2, q3, q4, q5, q6, q7, q8]) rfl ⟨⟨qh, .slice s1 qbs.length t1, qbs, .slice s2 qrs.length t2, qrs, .slice s3 qds.length t3, qds⟩, rfl, HQ.out.1, HQ.out.2.2.2 _, HQ.out.2.1, HQ.out.2.2.1, hBr⟩

theorem frI_n {q p : InstQ} {node value : Int} (h : q.e = frI p.e node value) (hp : p.n ≤ 1048576) : q.n ≤ 1048576 := by
  rw [inst_ne] at hp ⊢
  rw [h]
  unfold frI
  split
  · unfold InstE.n at hp ⊢
    dsimp only
    rw [rstR_n]
    exact hp
  · rw [ine0_n]; omega

end Go.Proofs.YtjnkldlkbjldcaaGreatDoor

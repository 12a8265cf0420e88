/- Texts joined, with what the law reaches alone. -/
import Derived.Test.YtmgkjcobdmdjmaaGreatDoorYLH
import Derived.Test.YtmgkjcobdmdjmaaGreatDoorYLO
namespace Go.Proofs.YtmgkjcobdmdjmaaGreatDoor
open Go.RowKit
open Go.BigFrame
set_option linter.unusedVariables false
set_option maxRecDepth 100000
set_option linter.unusedSimpArgs false
set_option maxHeartbeats 8000000 in
theorem l7Grown_any (b o b' o' : Nat) (p q : InstQ) (w : World) (hP : InstP w b o p) (hQ : InstP w b' o' q) (hl : p.n ≤ 1048576) (hl' : q.n ≤ 1048576) (hw : ∀ r ∈ p.rounds, r.rep.length = 3 ∧ r.pro.length = 3) (hw' : ∀ r ∈ q.rounds, r.rep.length = 3 ∧ r.pro.length = 3) (hd3 : p.dec.length = 3) (hd3' : q.dec.length = 3) :
    Calls Tryz.prog 94 #[.pointer (some ⟨b, o, none⟩), .pointer (some ⟨b', o', none⟩)] w fun e w' => e = .returned (.bool (grw p.e q.e)) ∧ Below w.heap.size w w' := by
  have hB : Below w.heap.size w w := Below.refl _ _
  obtain ⟨h1, vb, bt, vr, rs, vd, dc⟩ := p
  obtain ⟨h2, vb', bt', vr', rs', vd', dc'⟩ := q
  obtain ⟨hT, hR, hD⟩ : txnK.At w vb bt ∧ roundK.At w vr rs ∧ intK.At w vd dc := hP.rd
  obtain ⟨gT, gR, gD⟩ : txnK.At w vb' bt' ∧ roundK.At w vr' rs' ∧ intK.At w vd' dc' := hQ.rd
  dsimp only [InstQ.n] at hl hl' hw hw' hd3 hd3'
  obtain ⟨a1, k1, rfl⟩ := hT.shape
  obtain ⟨a2, k2, rfl⟩ := hR.shape
  obtain ⟨a3, k3, rfl⟩ := hD.shape
  obtain ⟨b1, m1, rfl⟩ := gT.shape
  obtain ⟨b2, m2, rfl⟩ := gR.shape
  obtain ⟨b3, m3, rfl⟩ := gD.shape
  have e1 := fun w h h' => specSameTxns_any (.slice a1 bt.length k1) (.slice b1 bt'.length m1) (bt.map TxnQ.e) (bt'.map TxnQ.e) w h h' (by rw [List.length_map, sumA_of']; omega) (by rw [List.length_map, sumA_of']; omega)
  have e3 := fun w h h' => l7Keeps_any (.slice a3 dc.length k3) (.slice b3 dc'.length m3) dc dc' w h h' hd3 hd3'
  generalize hE : grw _ _ = E
  have HE : Hid (E = ((!h1 || (h2 && sameTs (bt.map TxnQ.e) (bt'.map TxnQ.e))) && decide (rs.length ≤ rs'.length) && kpRs (rs.map RoundQ.e) (rs'.map RoundQ.e) && kps dc dc')) := show _ = _ by
    rw [← hE]
    unfold grw
    simp only [InstQ.e, List.length_map]
  clear hE hd3 hd3'
  generalize sameTs (bt.map TxnQ.e) (bt'.map TxnQ.e) = X at *
  generalize kps dc dc' = Z at *
  go_enter Tryz.func94, Tryz.ntmps94
  go_wp2_with fail
  by_cases hlen : rs'.length < rs.length
  · have hd : decide ((rs'.length : Int) < (rs.length : Int)) = true := decide_eq_true (by omega)
    have hd2 : (rs'.length : Int) < (rs.length : Int) := by omega
    have hle : decide (rs.length ≤ rs'.length) = false := decide_eq_false (by omega)
    have HE0 : Hid (E = false) := show _ = _ by rw [HE.out, hle]; simp
    clear hle hlen
    cases h1 with
    | false =>
      have E1 : Hid (E = false) := HE0.out
      have hW : Below w.heap.size w w.drew := (Below.refl _ _).drew
      have hnn : Nonempty (Lat w) := ⟨⟨w, Below.refl _ _⟩⟩
      have c0 := lat_cell hP.box.c0
      have c1 := lat_cell hP.box.c1
      have c2 := lat_cell hP.box.c2
      have c3 := lat_cell hP.box.c3
      have d0 := lat_cell hQ.box.c0
      have d1 := lat_cell hQ.box.c1
      have d2 := lat_cell hQ.box.c2
      have d3 := lat_cell hQ.box.c3
      dsimp only at c0 c1 c2 c3 d0 d1 d2 d3
      clear HE
      refine text_begin (S := fun w' => ∃ u : Lat w, w' = u.val) (by kernel_rfl) ?_
      refine seg_range [(0, 19)] 29 (by kernel_rfl) (by kernel_rfl) (by kernel_rfl) (by kernel_rfl) (by kernel_rfl) ⟨⟨_, hW⟩, rfl⟩ ?_
      simp only [pickR, List.toList_toArray, List.flatMap_cons, List.flatMap_nil, List.drop_succ_cons, List.drop_zero, List.take_succ_cons, List.take_zero, List.cons_append, List.nil_append, List.append_nil]
      repeat go_big_quiet_step (fail)
      refine wpQuiet_nil ?_
      refine skip_at 19 (some 25) 28 (by kernel_rfl) (by kernel_rfl) (by kernel_rfl) (by kernel_rfl) (by kernel_rfl) ⟨⟨_, hW⟩, rfl⟩ ?_
      simp only [Act.put, List.setIfInBounds_toArray, List.set_cons_zero, List.set_cons_succ]
      refine seg_range [(20, 8), (29, 4)] 16 (by kernel_rfl) (by kernel_rfl) (by kernel_rfl) (by kernel_rfl) (by kernel_rfl) ⟨⟨_, hW⟩, rfl⟩ ?_
      simp only [pickR, List.toList_toArray, List.flatMap_cons, List.flatMap_nil, List.drop_succ_cons, List.drop_zero, List.take_succ_cons, List.take_zero, List.cons_append, List.nil_append, List.append_nil]
      repeat go_big_quiet_step (fail)
      refine wpQuiet_nil ?_
      refine quiet_at 28 (some 34) (.int .i64 (rs'.length : Int)) 15 (by kernel_rfl) (by kernel_rfl) (by kernel_rfl) (by kernel_rfl) (by kernel_rfl) (fun u _ => by kernel_rfl) ⟨⟨_, hW⟩, rfl⟩ ?_
      simp only [Act.put, List.setIfInBounds_toArray, List.set_cons_zero, List.set_cons_succ]
      refine quiet_at 33 (some 39) (.int .i64 (rs.length : Int)) 14 (by kernel_rfl) (by kernel_rfl) (by kernel_rfl) (by kernel_rfl) (by kernel_rfl) (fun u _ => by kernel_rfl) ⟨⟨_, hW⟩, rfl⟩ ?_
      simp only [Act.put, List.setIfInBounds_toArray, List.set_cons_zero, List.set_cons_succ]
      refine seg_range [(34, 11)] 3 (by kernel_rfl) (by kernel_rfl) (by kernel_rfl) (by kernel_rfl) (by kernel_rfl) ⟨⟨_, hW⟩, rfl⟩ ?_
      simp only [pickR, List.toList_toArray, List.flatMap_cons, List.flatMap_nil, List.drop_succ_cons, List.drop_zero, List.take_succ_cons, List.take_zero, List.cons_append, List.nil_append, List.append_nil]
      repeat go_big_quiet_step (fail)
      refine wpQuiet_nil ?_
      refine skip_at 45 (some 51) 2 (by kernel_rfl) (by kernel_rfl) (by kernel_rfl) (by kernel_rfl) (by kernel_rfl) ⟨⟨_, hW⟩, rfl⟩ ?_
      simp only [Act.put, List.setIfInBounds_toArray, List.set_cons_zero, List.set_cons_succ]
      refine seg_range [(46, 2)] 0 (by kernel_rfl) (by kernel_rfl) (by kernel_rfl) (by kernel_rfl) (by kernel_rfl) ⟨⟨_, hW⟩, rfl⟩ ?_
      simp only [pickR, List.toList_toArray, List.flatMap_cons, List.flatMap_nil, List.drop_succ_cons, List.drop_zero, List.take_succ_cons, List.take_zero, List.cons_append, List.nil_append, List.append_nil]
      repeat go_big_quiet_step (fail)
      refine wpQuiet_nil ?_
      refine text_end (by kernel_rfl) ?_
      replace hB := hB.trans (hW.mono hB.size)
      clear c0 c1 c2 c3 d0 d1 d2 d3 hW hnn
      go_wp2
      go_ret
      exact ⟨by rw [E1.out]; rfl, hB⟩
    | true =>
      cases h2 with
      | false =>
        have E1 : Hid (E = false) := HE0.out
        have hW : Below w.heap.size w w.drew := (Below.refl _ _).drew
        have hnn : Nonempty (Lat w) := ⟨⟨w, Below.refl _ _⟩⟩
        have c0 := lat_cell hP.box.c0
        have c1 := lat_cell hP.box.c1
        have c2 := lat_cell hP.box.c2
        have c3 := lat_cell hP.box.c3
        have d0 := lat_cell hQ.box.c0
        have d1 := lat_cell hQ.box.c1
        have d2 := lat_cell hQ.box.c2
        have d3 := lat_cell hQ.box.c3
        dsimp only at c0 c1 c2 c3 d0 d1 d2 d3
        clear HE
        refine text_begin (S := fun w' => ∃ u : Lat w, w' = u.val) (by kernel_rfl) ?_
        refine seg_range [(0, 19)] 29 (by kernel_rfl) (by kernel_rfl) (by kernel_rfl) (by kernel_rfl) (by kernel_rfl) ⟨⟨_, hW⟩, rfl⟩ ?_
        simp only [pickR, List.toList_toArray, List.flatMap_cons, List.flatMap_nil, List.drop_succ_cons, List.drop_zero, List.take_succ_cons, List.take_zero, List.cons_append, List.nil_append, List.append_nil]
        repeat go_big_quiet_step (fail)
        refine wpQuiet_nil ?_
        refine skip_at 19 (some 25) 28 (by kernel_rfl) (by kernel_rfl) (by kernel_rfl) (by kernel_rfl) (by kernel_rfl) ⟨⟨_, hW⟩, rfl⟩ ?_
        simp only [Act.put, List.setIfInBounds_toArray, List.set_cons_zero, List.set_cons_succ]
        refine seg_range [(20, 8), (29, 4)] 16 (by kernel_rfl) (by kernel_rfl) (by kernel_rfl) (by kernel_rfl) (by kernel_rfl) ⟨⟨_, hW⟩, rfl⟩ ?_
        simp only [pickR, List.toList_toArray, List.flatMap_cons, List.flatMap_nil, List.drop_succ_cons, List.drop_zero, List.take_succ_cons, List.take_zero, List.cons_append, List.nil_append, List.append_nil]
        repeat go_big_quiet_step (fail)
        refine wpQuiet_nil ?_
        refine skip_at 28 (some 34) 15 (by kernel_rfl) (by kernel_rfl) (by kernel_rfl) (by kernel_rfl) (by kernel_rfl) ⟨⟨_, hW⟩, rfl⟩ ?_
        simp only [Act.put, List.setIfInBounds_toArray, List.set_cons_zero, List.set_cons_succ]
        refine skip_at 33 (some 39) 14 (by kernel_rfl) (by kernel_rfl) (by kernel_rfl) (by kernel_rfl) (by kernel_rfl) ⟨⟨_, hW⟩, rfl⟩ ?_
        simp only [Act.put, List.setIfInBounds_toArray, List.set_cons_zero, List.set_cons_succ]
        refine seg_range [(34, 11)] 3 (by kernel_rfl) (by kernel_rfl) (by kernel_rfl) (by kernel_rfl) (by kernel_rfl) ⟨⟨_, hW⟩, rfl⟩ ?_
        simp only [pickR, List.toList_toArray, List.flatMap_cons, List.flatMap_nil, List.drop_succ_cons, List.drop_zero, List.take_succ_cons, List.take_zero, List.cons_append, List.nil_append, List.append_nil]
        repeat go_big_quiet_step (fail)
        refine wpQuiet_nil ?_
        refine skip_at 45 (some 51) 2 (by kernel_rfl) (by kernel_rfl) (by kernel_rfl) (by kernel_rfl) (by kernel_rfl) ⟨⟨_, hW⟩, rfl⟩ ?_
        simp only [Act.put, List.setIfInBounds_toArray, List.set_cons_zero, List.set_cons_succ]
        refine seg_range [(46, 2)] 0 (by kernel_rfl) (by kernel_rfl) (by kernel_rfl) (by kernel_rfl) (by kernel_rfl) ⟨⟨_, hW⟩, rfl⟩ ?_
        simp only [pickR, List.toList_toArray, List.flatMap_cons, List.flatMap_nil, List.drop_succ_cons, List.drop_zero, List.take_succ_cons, List.take_zero, List.cons_append, List.nil_append, List.append_nil]
        repeat go_big_quiet_step (fail)
        refine wpQuiet_nil ?_
        refine text_end (by kernel_rfl) ?_
        replace hB := hB.trans (hW.mono hB.size)
        clear c0 c1 c2 c3 d0 d1 d2 d3 hW hnn
        go_wp2
        go_ret
        exact ⟨by rw [E1.out]; rfl, hB⟩
      | true =>
        cases X with
        | false =>
          have E1 : Hid (E = false) := HE0.out
          have hW : Below w.heap.size w w.drew := (Below.refl _ _).drew
          have hnn : Nonempty (Lat w) := ⟨⟨w, Below.refl _ _⟩⟩
          have c0 := lat_cell hP.box.c0
          have c1 := lat_cell hP.box.c1
          have c2 := lat_cell hP.box.c2
          have c3 := lat_cell hP.box.c3
          have d0 := lat_cell hQ.box.c0
          have d1 := lat_cell hQ.box.c1
          have d2 := lat_cell hQ.box.c2
          have d3 := lat_cell hQ.box.c3
          dsimp only at c0 c1 c2 c3 d0 d1 d2 d3
          clear HE
          refine text_begin (S := fun w' => ∃ u : Lat w, w' = u.val) (by kernel_rfl) ?_
          refine seg_range [(0, 19)] 29 (by kernel_rfl) (by kernel_rfl) (by kernel_rfl) (by kernel_rfl) (by kernel_rfl) ⟨⟨_, hW⟩, rfl⟩ ?_
          simp only [pickR, List.toList_toArray, List.flatMap_cons, List.flatMap_nil, List.drop_succ_cons, List.drop_zero, List.take_succ_cons, List.take_zero, List.cons_append, List.nil_append, List.append_nil]
          repeat go_big_quiet_step (fail)
          refine wpQuiet_nil ?_
          refine call_at 19 (some 25) 154 #[.slice a1 bt.length k1, .slice b1 bt'.length m1] 28 (by kernel_rfl) (by kernel_rfl) (by kernel_rfl) (by kernel_rfl) (by kernel_rfl) ?_
          refine (e1 _ (txnsAt_of' (hT.below hW)) (txnsAt_of' (gT.below hW))).mono ?_
          rintro e w9 ⟨rfl, hb9⟩
          replace hW := hW.trans (hb9.mono hW.size)
          clear hb9
          refine ⟨_, rfl, ⟨⟨_, hW⟩, rfl⟩, ?_⟩
          simp only [Act.put, List.setIfInBounds_toArray, List.set_cons_zero, List.set_cons_succ]
          refine seg_range [(20, 8), (29, 4)] 16 (by kernel_rfl) (by kernel_rfl) (by kernel_rfl) (by kernel_rfl) (by kernel_rfl) ⟨⟨_, hW⟩, rfl⟩ ?_
          simp only [pickR, List.toList_toArray, List.flatMap_cons, List.flatMap_nil, List.drop_succ_cons, List.drop_zero, List.take_succ_cons, List.take_zero, List.cons_append, List.nil_append, List.append_nil]
          repeat go_big_quiet_step (fail)
          refine wpQuiet_nil ?_
          refine skip_at 28 (some 34) 15 (by kernel_rfl) (by kernel_rfl) (by kernel_rfl) (by kernel_rfl) (by kernel_rfl) ⟨⟨_, hW⟩, rfl⟩ ?_
          simp only [Act.put, List.setIfInBounds_toArray, List.set_cons_zero, List.set_cons_succ]
          refine skip_at 33 (some 39) 14 (by kernel_rfl) (by kernel_rfl) (by kernel_rfl) (by kernel_rfl) (by kernel_rfl) ⟨⟨_, hW⟩, rfl⟩ ?_
          simp only [Act.put, List.setIfInBounds_toArray, List.set_cons_zero, List.set_cons_succ]
          refine seg_range [(34, 11)] 3 (by kernel_rfl) (by kernel_rfl) (by kernel_rfl) (by kernel_rfl) (by kernel_rfl) ⟨⟨_, hW⟩, rfl⟩ ?_
          simp only [pickR, List.toList_toArray, List.flatMap_cons, List.flatMap_nil, List.drop_succ_cons, List.drop_zero, List.take_succ_cons, List.take_zero, List.cons_append, List.nil_append, List.append_nil]
          repeat go_big_quiet_step (fail)
          refine wpQuiet_nil ?_
          refine skip_at 45 (some 51) 2 (by kernel_rfl) (by kernel_rfl) (by kernel_rfl) (by kernel_rfl) (by kernel_rfl) ⟨⟨_, hW⟩, rfl⟩ ?_
          simp only [Act.put, List.setIfInBounds_toArray, List.set_cons_zero, List.set_cons_succ]
          refine seg_range [(46, 2)] 0 (by kernel_rfl) (by kernel_rfl) (by kernel_rfl) (by kernel_rfl) (by kernel_rfl) ⟨⟨_, hW⟩, rfl⟩ ?_
          simp only [pickR, List.toList_toArray, List.flatMap_cons, List.flatMap_nil, List.drop_succ_cons, List.drop_zero, List.take_succ_cons, List.take_zero, List.cons_append, List.nil_append, List.append_nil]
          repeat go_big_quiet_step (fail)
          refine wpQuiet_nil ?_
          refine text_end (by kernel_rfl) ?_
          replace hB := hB.trans (hW.mono hB.size)
          clear c0 c1 c2 c3 d0 d1 d2 d3 hW hnn
          go_wp2
          go_ret
          exact ⟨by rw [E1.out]; rfl, hB⟩
        | true =>
          have E1 : Hid (E = false) := HE0.out
          have hW : Below w.heap.size w w.drew := (Below.refl _ _).drew
          have hnn : Nonempty (Lat w) := ⟨⟨w, Below.refl _ _⟩⟩
          have c0 := lat_cell hP.box.c0
          have c1 := lat_cell hP.box.c1
          have c2 := lat_cell hP.box.c2
          have c3 := lat_cell hP.box.c3
          have d0 := lat_cell hQ.box.c0
          have d1 := lat_cell hQ.box.c1
          have d2 := lat_cell hQ.box.c2
          have d3 := lat_cell hQ.box.c3
          dsimp only at c0 c1 c2 c3 d0 d1 d2 d3
          clear HE
          refine text_begin (S := fun w' => ∃ u : Lat w, w' = u.val) (by kernel_rfl) ?_
          refine seg_range [(0, 19)] 29 (by kernel_rfl) (by kernel_rfl) (by kernel_rfl) (by kernel_rfl) (by kernel_rfl) ⟨⟨_, hW⟩, rfl⟩ ?_
          simp only [pickR, List.toList_toArray, List.flatMap_cons, List.flatMap_nil, List.drop_succ_cons, List.drop_zero, List.take_succ_cons, List.take_zero, List.cons_append, List.nil_append, List.append_nil]
          repeat go_big_quiet_step (fail)
          refine wpQuiet_nil ?_
          refine call_at 19 (some 25) 154 #[.slice a1 bt.length k1, .slice b1 bt'.length m1] 28 (by kernel_rfl) (by kernel_rfl) (by kernel_rfl) (by kernel_rfl) (by kernel_rfl) ?_
          refine (e1 _ (txnsAt_of' (hT.below hW)) (txnsAt_of' (gT.below hW))).mono ?_
          rintro e w9 ⟨rfl, hb9⟩
          replace hW := hW.trans (hb9.mono hW.size)
          clear hb9
          refine ⟨_, rfl, ⟨⟨_, hW⟩, rfl⟩, ?_⟩
          simp only [Act.put, List.setIfInBounds_toArray, List.set_cons_zero, List.set_cons_succ]
          refine seg_range [(20, 8), (29, 4)] 16 (by kernel_rfl) (by kernel_rfl) (by kernel_rfl) (by kernel_rfl) (by kernel_rfl) ⟨⟨_, hW⟩, rfl⟩ ?_
          simp only [pickR, List.toList_toArray, List.flatMap_cons, List.flatMap_nil, List.drop_succ_cons, List.drop_zero, List.take_succ_cons, List.take_zero, List.cons_append, List.nil_append, List.append_nil]
          repeat go_big_quiet_step (fail)
          refine wpQuiet_nil ?_
          refine quiet_at 28 (some 34) (.int .i64 (rs'.length : Int)) 15 (by kernel_rfl) (by kernel_rfl) (by kernel_rfl) (by kernel_rfl) (by kernel_rfl) (fun u _ => by kernel_rfl) ⟨⟨_, hW⟩, rfl⟩ ?_
          simp only [Act.put, List.setIfInBounds_toArray, List.set_cons_zero, List.set_cons_succ]
          refine quiet_at 33 (some 39) (.int .i64 (rs.length : Int)) 14 (by kernel_rfl) (by kernel_rfl) (by kernel_rfl) (by kernel_rfl) (by kernel_rfl) (fun u _ => by kernel_rfl) ⟨⟨_, hW⟩, rfl⟩ ?_
          simp only [Act.put, List.setIfInBounds_toArray, List.set_cons_zero, List.set_cons_succ]
          refine seg_range [(34, 11)] 3 (by kernel_rfl) (by kernel_rfl) (by kernel_rfl) (by kernel_rfl) (by kernel_rfl) ⟨⟨_, hW⟩, rfl⟩ ?_
          simp only [pickR, List.toList_toArray, List.flatMap_cons, List.flatMap_nil, List.drop_succ_cons, List.drop_zero, List.take_succ_cons, List.take_zero, List.cons_append, List.nil_append, List.append_nil]
          repeat go_big_quiet_step (fail)
          refine wpQuiet_nil ?_
          refine skip_at 45 (some 51) 2 (by kernel_rfl) (by kernel_rfl) (by kernel_rfl) (by kernel_rfl) (by kernel_rfl) ⟨⟨_, hW⟩, rfl⟩ ?_
          simp only [Act.put, List.setIfInBounds_toArray, List.set_cons_zero, List.set_cons_succ]
          refine seg_range [(46, 2)] 0 (by kernel_rfl) (by kernel_rfl) (by kernel_rfl) (by kernel_rfl) (by kernel_rfl) ⟨⟨_, hW⟩, rfl⟩ ?_
          simp only [pickR, List.toList_toArray, List.flatMap_cons, List.flatMap_nil, List.drop_succ_cons, List.drop_zero, List.take_succ_cons, List.take_zero, List.cons_append, List.nil_append, List.append_nil]
          repeat go_big_quiet_step (fail)
          refine wpQuiet_nil ?_
          refine text_end (by kernel_rfl) ?_
          replace hB := hB.trans (hW.mono hB.size)
          clear c0 c1 c2 c3 d0 d1 d2 d3 hW hnn
          go_wp2
          go_ret
          exact ⟨by rw [E1.out]; rfl, hB⟩
  · have hd : decide ((rs'.length : Int) < (rs.length : Int)) = false := decide_eq_false (by omega)
    have hd2 : ¬ (rs'.length : Int) < (rs.length : Int) := by omega
    have hle : decide (rs.length ≤ rs'.length) = true := decide_eq_true (by omega)
    have HL : Hid (rs.length ≤ rs'.length) := show _ ≤ _ by omega
    rw [hle] at HE
    clear hle hlen
    cases Z with
    | false =>
      have HE0 : Hid (E = false) := show _ = _ by rw [HE.out]; simp
      cases h1 with
      | false =>
        have E1 : Hid (E = false) := HE0.out
        have hW : Below w.heap.size w w.drew := (Below.refl _ _).drew
        have hnn : Nonempty (Lat w) := ⟨⟨w, Below.refl _ _⟩⟩
        have c0 := lat_cell hP.box.c0
        have c1 := lat_cell hP.box.c1
        have c2 := lat_cell hP.box.c2
        have c3 := lat_cell hP.box.c3
        have d0 := lat_cell hQ.box.c0
        have d1 := lat_cell hQ.box.c1
        have d2 := lat_cell hQ.box.c2
        have d3 := lat_cell hQ.box.c3
        dsimp only at c0 c1 c2 c3 d0 d1 d2 d3
        clear HE
        refine text_begin (S := fun w' => ∃ u : Lat w, w' = u.val) (by kernel_rfl) ?_
        refine seg_range [(0, 19)] 29 (by kernel_rfl) (by kernel_rfl) (by kernel_rfl) (by kernel_rfl) (by kernel_rfl) ⟨⟨_, hW⟩, rfl⟩ ?_
        simp only [pickR, List.toList_toArray, List.flatMap_cons, List.flatMap_nil, List.drop_succ_cons, List.drop_zero, List.take_succ_cons, List.take_zero, List.cons_append, List.nil_append, List.append_nil]
        repeat go_big_quiet_step (fail)
        refine wpQuiet_nil ?_
        refine skip_at 19 (some 25) 28 (by kernel_rfl) (by kernel_rfl) (by kernel_rfl) (by kernel_rfl) (by kernel_rfl) ⟨⟨_, hW⟩, rfl⟩ ?_
        simp only [Act.put, List.setIfInBounds_toArray, List.set_cons_zero, List.set_cons_succ]
        refine seg_range [(20, 8), (29, 4)] 16 (by kernel_rfl) (by kernel_rfl) (by kernel_rfl) (by kernel_rfl) (by kernel_rfl) ⟨⟨_, hW⟩, rfl⟩ ?_
        simp only [pickR, List.toList_toArray, List.flatMap_cons, List.flatMap_nil, List.drop_succ_cons, List.drop_zero, List.take_succ_cons, List.take_zero, List.cons_append, List.nil_append, List.append_nil]
        repeat go_big_quiet_step (fail)
        refine wpQuiet_nil ?_
        refine quiet_at 28 (some 34) (.int .i64 (rs'.length : Int)) 15 (by kernel_rfl) (by kernel_rfl) (by kernel_rfl) (by kernel_rfl) (by kernel_rfl) (fun u _ => by kernel_rfl) ⟨⟨_, hW⟩, rfl⟩ ?_
        simp only [Act.put, List.setIfInBounds_toArray, List.set_cons_zero, List.set_cons_succ]
        refine quiet_at 33 (some 39) (.int .i64 (rs.length : Int)) 14 (by kernel_rfl) (by kernel_rfl) (by kernel_rfl) (by kernel_rfl) (by kernel_rfl) (fun u _ => by kernel_rfl) ⟨⟨_, hW⟩, rfl⟩ ?_
        simp only [Act.put, List.setIfInBounds_toArray, List.set_cons_zero, List.set_cons_succ]
        refine seg_range [(34, 11)] 3 (by kernel_rfl) (by kernel_rfl) (by kernel_rfl) (by kernel_rfl) (by kernel_rfl) ⟨⟨_, hW⟩, rfl⟩ ?_
        simp only [pickR, List.toList_toArray, List.flatMap_cons, List.flatMap_nil, List.drop_succ_cons, List.drop_zero, List.take_succ_cons, List.take_zero, List.cons_append, List.nil_append, List.append_nil]
        repeat go_big_quiet_step (fail)
        refine wpQuiet_nil ?_
        refine call_at 45 (some 51) 155 #[.slice a3 dc.length k3, .slice b3 dc'.length m3] 2 (by kernel_rfl) (by kernel_rfl) (by kernel_rfl) (by kernel_rfl) (by kernel_rfl) ?_
        refine (e3 _ (hD.below hW) (gD.below hW)).mono ?_
        rintro e w9 ⟨rfl, hb9⟩
        replace hW := hW.trans (hb9.mono hW.size)
        clear hb9
        refine ⟨_, rfl, ⟨⟨_, hW⟩, rfl⟩, ?_⟩
        simp only [Act.put, List.setIfInBounds_toArray, List.set_cons_zero, List.set_cons_succ]
        refine seg_range [(46, 2)] 0 (by kernel_rfl) (by kernel_rfl) (by kernel_rfl) (by kernel_rfl) (by kernel_rfl) ⟨⟨_, hW⟩, rfl⟩ ?_
        simp only [pickR, List.toList_toArray, List.flatMap_cons, List.flatMap_nil, List.drop_succ_cons, List.drop_zero, List.take_succ_cons, List.take_zero, List.cons_append, List.nil_append, List.append_nil]
        repeat go_big_quiet_step (fail)
        refine wpQuiet_nil ?_
        refine text_end (by kernel_rfl) ?_
        replace hB := hB.trans (hW.mono hB.size)
        clear c0 c1 c2 c3 d0 d1 d2 d3 hW hnn
        go_wp2
        go_ret
        exact ⟨by rw [E1.out]; rfl, hB⟩
      | true =>
        cases h2 with
        | false =>
          have E1 : Hid (E = false) := HE0.out
          have hW : Below w.heap.size w w.drew := (Below.refl _ _).drew
          have hnn : Nonempty (Lat w) := ⟨⟨w, Below.refl _ _⟩⟩
          have c0 := lat_cell hP.box.c0
          have c1 := lat_cell hP.box.c1
          have c2 := lat_cell hP.box.c2
          have c3 := lat_cell hP.box.c3
          have d0 := lat_cell hQ.box.c0
          have d1 := lat_cell hQ.box.c1
          have d2 := lat_cell hQ.box.c2
          have d3 := lat_cell hQ.box.c3
          dsimp only at c0 c1 c2 c3 d0 d1 d2 d3
          clear HE
          refine text_begin (S := fun w' => ∃ u : Lat w, w' = u.val) (by kernel_rfl) ?_
          refine seg_range [(0, 19)] 29 (by kernel_rfl) (by kernel_rfl) (by kernel_rfl) (by kernel_rfl) (by kernel_rfl) ⟨⟨_, hW⟩, rfl⟩ ?_
          simp only [pickR, List.toList_toArray, List.flatMap_cons, List.flatMap_nil, List.drop_succ_cons, List.drop_zero, List.take_succ_cons, List.take_zero, List.cons_append, List.nil_append, List.append_nil]
          repeat go_big_quiet_step (fail)
          refine wpQuiet_nil ?_
          refine skip_at 19 (some 25) 28 (by kernel_rfl) (by kernel_rfl) (by kernel_rfl) (by kernel_rfl) (by kernel_rfl) ⟨⟨_, hW⟩, rfl⟩ ?_
          simp only [Act.put, List.setIfInBounds_toArray, List.set_cons_zero, List.set_cons_succ]
          refine seg_range [(20, 8), (29, 4)] 16 (by kernel_rfl) (by kernel_rfl) (by kernel_rfl) (by kernel_rfl) (by kernel_rfl) ⟨⟨_, hW⟩, rfl⟩ ?_
          simp only [pickR, List.toList_toArray, List.flatMap_cons, List.flatMap_nil, List.drop_succ_cons, List.drop_zero, List.take_succ_cons, List.take_zero, List.cons_append, List.nil_append, List.append_nil]
          repeat go_big_quiet_step (fail)
          refine wpQuiet_nil ?_
          refine skip_at 28 (some 34) 15 (by kernel_rfl) (by kernel_rfl) (by kernel_rfl) (by kernel_rfl) (by kernel_rfl) ⟨⟨_, hW⟩, rfl⟩ ?_
          simp only [Act.put, List.setIfInBounds_toArray, List.set_cons_zero, List.set_cons_succ]
          refine skip_at 33 (some 39) 14 (by kernel_rfl) (by kernel_rfl) (by kernel_rfl) (by kernel_rfl) (by kernel_rfl) ⟨⟨_, hW⟩, rfl⟩ ?_
          simp only [Act.put, List.setIfInBounds_toArray, List.set_cons_zero, List.set_cons_succ]
          refine seg_range [(34, 11)] 3 (by kernel_rfl) (by kernel_rfl) (by kernel_rfl) (by kernel_rfl) (by kernel_rfl) ⟨⟨_, hW⟩, rfl⟩ ?_
          simp only [pickR, List.toList_toArray, List.flatMap_cons, List.flatMap_nil, List.drop_succ_cons, List.drop_zero, List.take_succ_cons, List.take_zero, List.cons_append, List.nil_append, List.append_nil]
          repeat go_big_quiet_step (fail)
          refine wpQuiet_nil ?_
          refine skip_at 45 (some 51) 2 (by kernel_rfl) (by kernel_rfl) (by kernel_rfl) (by kernel_rfl) (by kernel_rfl) ⟨⟨_, hW⟩, rfl⟩ ?_
          simp only [Act.put, List.setIfInBounds_toArray, List.set_cons_zero, List.set_cons_succ]
          refine seg_range [(46, 2)] 0 (by kernel_rfl) (by kernel_rfl) (by kernel_rfl) (by kernel_rfl) (by kernel_rfl) ⟨⟨_, hW⟩, rfl⟩ ?_
          simp only [pickR, List.toList_toArray, List.flatMap_cons, List.flatMap_nil, List.drop_succ_cons, List.drop_zero, List.take_succ_cons, List.take_zero, List.cons_append, List.nil_append, List.append_nil]
          repeat go_big_quiet_step (fail)
          refine wpQuiet_nil ?_
          refine text_end (by kernel_rfl) ?_
          replace hB := hB.trans (hW.mono hB.size)
          clear c0 c1 c2 c3 d0 d1 d2 d3 hW hnn
          go_wp2
          go_ret
          exact ⟨by rw [E1.out]; rfl, hB⟩
        | true =>
          cases X with
          | false =>
            have E1 : Hid (E = false) := HE0.out
            have hW : Below w.heap.size w w.drew := (Below.refl _ _).drew
            have hnn : Nonempty (Lat w) := ⟨⟨w, Below.refl _ _⟩⟩
            have c0 := lat_cell hP.box.c0
            have c1 := lat_cell hP.box.c1
            have c2 := lat_cell hP.box.c2
            have c3 := lat_cell hP.box.c3
            have d0 := lat_cell hQ.box.c0
            have d1 := lat_cell hQ.box.c1
            have d2 := lat_cell hQ.box.c2
            have d3 := lat_cell hQ.box.c3
            dsimp only at c0 c1 c2 c3 d0 d1 d2 d3
            clear HE
            refine text_begin (S := fun w' => ∃ u : Lat w, w' = u.val) (by kernel_rfl) ?_
            refine seg_range [(0, 19)] 29 (by kernel_rfl) (by kernel_rfl) (by kernel_rfl) (by kernel_rfl) (by kernel_rfl) ⟨⟨_, hW⟩, rfl⟩ ?_
            simp only [pickR, List.toList_toArray, List.flatMap_cons, List.flatMap_nil, List.drop_succ_cons, List.drop_zero, List.take_succ_cons, List.take_zero, List.cons_append, List.nil_append, List.append_nil]
            repeat go_big_quiet_step (fail)
            refine wpQuiet_nil ?_
            refine call_at 19 (some 25) 154 #[.slice a1 bt.length k1, .slice b1 bt'.length m1] 28 (by kernel_rfl) (by kernel_rfl) (by kernel_rfl) (by kernel_rfl) (by kernel_rfl) ?_
            refine (e1 _ (txnsAt_of' (hT.below hW)) (txnsAt_of' (gT.below hW))).mono ?_
            rintro e w9 ⟨rfl, hb9⟩
            replace hW := hW.trans (hb9.mono hW.size)
            clear hb9
            refine ⟨_, rfl, ⟨⟨_, hW⟩, rfl⟩, ?_⟩
            simp only [Act.put, List.setIfInBounds_toArray, List.set_cons_zero, List.set_cons_succ]
            refine seg_range [(20, 8), (29, 4)] 16 (by kernel_rfl) (by kernel_rfl) (by kernel_rfl) (by kernel_rfl) (by kernel_rfl) ⟨⟨_, hW⟩, rfl⟩ ?_
            simp only [pickR, List.toList_toArray, List.flatMap_cons, List.flatMap_nil, List.drop_succ_cons, List.drop_zero, List.take_succ_cons, List.take_zero, List.cons_append, List.nil_append, List.append_nil]
            repeat go_big_quiet_step (fail)
            refine wpQuiet_nil ?_
            refine skip_at 28 (some 34) 15 (by kernel_rfl) (by kernel_rfl) (by kernel_rfl) (by kernel_rfl) (by kernel_rfl) ⟨⟨_, hW⟩, rfl⟩ ?_
            simp only [Act.put, List.setIfInBounds_toArray, List.set_cons_zero, List.set_cons_succ]
            refine skip_at 33 (some 39) 14 (by kernel_rfl) (by kernel_rfl) (by kernel_rfl) (by kernel_rfl) (by kernel_rfl) ⟨⟨_, hW⟩, rfl⟩ ?_
            simp only [Act.put, List.setIfInBounds_toArray, List.set_cons_zero, List.set_cons_succ]
            refine seg_range [(34, 11)] 3 (by kernel_rfl) (by kernel_rfl) (by kernel_rfl) (by kernel_rfl) (by kernel_rfl) ⟨⟨_, hW⟩, rfl⟩ ?_
            simp only [pickR, List.toList_toArray, List.flatMap_cons, List.flatMap_nil, List.drop_succ_cons, List.drop_zero, List.take_succ_cons, List.take_zero, List.cons_append, List.nil_append, List.append_nil]
            repeat go_big_quiet_step (fail)
            refine wpQuiet_nil ?_
            refine skip_at 45 (some 51) 2 (by kernel_rfl) (by kernel_rfl) (by kernel_rfl) (by kernel_rfl) (by kernel_rfl) ⟨⟨_, hW⟩, rfl⟩ ?_
            simp only [Act.put, List.setIfInBounds_toArray, List.set_cons_zero, List.set_cons_succ]
            refine seg_range [(46, 2)] 0 (by kernel_rfl) (by kernel_rfl) (by kernel_rfl) (by kernel_rfl) (by kernel_rfl) ⟨⟨_, hW⟩, rfl⟩ ?_
            simp only [pickR, List.toList_toArray, List.flatMap_cons, List.flatMap_nil, List.drop_succ_cons, List.drop_zero, List.take_succ_cons, List.take_zero, List.cons_append, List.nil_append, List.append_nil]
            repeat go_big_quiet_step (fail)
            refine wpQuiet_nil ?_
            refine text_end (by kernel_rfl) ?_
            replace hB := hB.trans (hW.mono hB.size)
            clear c0 c1 c2 c3 d0 d1 d2 d3 hW hnn
            go_wp2
            go_ret
            exact ⟨by rw [E1.out]; rfl, hB⟩
          | true =>
            have E1 : Hid (E = false) := HE0.out
            have hW : Below w.heap.size w w.drew := (Below.refl _ _).drew
            have hnn : Nonempty (Lat w) := ⟨⟨w, Below.refl _ _⟩⟩
            have c0 := lat_cell hP.box.c0
            have c1 := lat_cell hP.box.c1
            have c2 := lat_cell hP.box.c2
            have c3 := lat_cell hP.box.c3
            have d0 := lat_cell hQ.box.c0
            have d1 := lat_cell hQ.box.c1
            have d2 := lat_cell hQ.box.c2
            have d3 := lat_cell hQ.box.c3
            dsimp only at c0 c1 c2 c3 d0 d1 d2 d3
            clear HE
            refine text_begin (S := fun w' => ∃ u : Lat w, w' = u.val) (by kernel_rfl) ?_
            refine seg_range [(0, 19)] 29 (by kernel_rfl) (by kernel_rfl) (by kernel_rfl) (by kernel_rfl) (by kernel_rfl) ⟨⟨_, hW⟩, rfl⟩ ?_
            simp only [pickR, List.toList_toArray, List.flatMap_cons, List.flatMap_nil, List.drop_succ_cons, List.drop_zero, List.take_succ_cons, List.take_zero, List.cons_append, List.nil_append, List.append_nil]
            repeat go_big_quiet_step (fail)
            refine wpQuiet_nil ?_
            refine call_at 19 (some 25) 154 #[.slice a1 bt.length k1, .slice b1 bt'.length m1] 28 (by kernel_rfl) (by kernel_rfl) (by kernel_rfl) (by kernel_rfl) (by kernel_rfl) ?_
            refine (e1 _ (txnsAt_of' (hT.below hW)) (txnsAt_of' (gT.below hW))).mono ?_
            rintro e w9 ⟨rfl, hb9⟩
            replace hW := hW.trans (hb9.mono hW.size)
            clear hb9
            refine ⟨_, rfl, ⟨⟨_, hW⟩, rfl⟩, ?_⟩
            simp only [Act.put, List.setIfInBounds_toArray, List.set_cons_zero, List.set_cons_succ]
            refine seg_range [(20, 8), (29, 4)] 16 (by kernel_rfl) (by kernel_rfl) (by kernel_rfl) (by kernel_rfl) (by kernel_rfl) ⟨⟨_, hW⟩, rfl⟩ ?_
            simp only [pickR, List.toList_toArray, List.flatMap_cons, List.flatMap_nil, List.drop_succ_cons, List.drop_zero, List.take_succ_cons, List.take_zero, List.cons_append, List.nil_append, List.append_nil]
            repeat go_big_quiet_step (fail)
            refine wpQuiet_nil ?_
            refine quiet_at 28 (some 34) (.int .i64 (rs'.length : Int)) 15 (by kernel_rfl) (by kernel_rfl) (by kernel_rfl) (by kernel_rfl) (by kernel_rfl) (fun u _ => by kernel_rfl) ⟨⟨_, hW⟩, rfl⟩ ?_
            simp only [Act.put, List.setIfInBounds_toArray, List.set_cons_zero, List.set_cons_succ]
            refine quiet_at 33 (some 39) (.int .i64 (rs.length : Int)) 14 (by kernel_rfl) (by kernel_rfl) (by kernel_rfl) (by kernel_rfl) (by kernel_rfl) (fun u _ => by kernel_rfl) ⟨⟨_, hW⟩, rfl⟩ ?_
            simp only [Act.put, List.setIfInBounds_toArray, List.set_cons_zero, List.set_cons_succ]
            refine seg_range [(34, 11)] 3 (by kernel_rfl) (by kernel_rfl) (by kernel_rfl) (by kernel_rfl) (by kernel_rfl) ⟨⟨_, hW⟩, rfl⟩ ?_
            simp only [pickR, List.toList_toArray, List.flatMap_cons, List.flatMap_nil, List.drop_succ_cons, List.drop_zero, List.take_succ_cons, List.take_zero, List.cons_append, List.nil_append, List.append_nil]
            repeat go_big_quiet_step (fail)
            refine wpQuiet_nil ?_
            refine call_at 45 (some 51) 155 #[.slice a3 dc.length k3, .slice b3 dc'.length m3] 2 (by kernel_rfl) (by kernel_rfl) (by kernel_rfl) (by kernel_rfl) (by kernel_rfl) ?_
            refine (e3 _ (hD.below hW) (gD.below hW)).mono ?_
            rintro e w9 ⟨rfl, hb9⟩
            replace hW := hW.trans (hb9.mono hW.size)
            clear hb9
            refine ⟨_, rfl, ⟨⟨_, hW⟩, rfl⟩, ?_⟩
            simp only [Act.put, List.setIfInBounds_toArray, List.set_cons_zero, List.set_cons_succ]
            refine seg_range [(46, 2)] 0 (by kernel_rfl) (by kernel_rfl) (by kernel_rfl) (by kernel_rfl) (by kernel_rfl) ⟨⟨_, hW⟩, rfl⟩ ?_
            simp only [pickR, List.toList_toArray, List.flatMap_cons, List.flatMap_nil, List.drop_succ_cons, List.drop_zero, List.take_succ_cons, List.take_zero, List.cons_append, List.nil_append, List.append_nil]
            repeat go_big_quiet_step (fail)
            refine wpQuiet_nil ?_
            refine text_end (by kernel_rfl) ?_
            replace hB := hB.trans (hW.mono hB.size)
            clear c0 c1 c2 c3 d0 d1 d2 d3 hW hnn
            go_wp2
            go_ret
            exact ⟨by rw [E1.out]; rfl, hB⟩
    | true =>
      cases h1 with
      | false =>
        have HE2 : Hid (E = kpRs (rs.map RoundQ.e) (rs'.map RoundQ.e)) := show _ = _ by rw [HE.out]; simp
        clear HE
        have hW : Below w.heap.size w w.drew := (Below.refl _ _).drew
        have hnn : Nonempty (Lat w) := ⟨⟨w, Below.refl _ _⟩⟩
        have c0 := lat_cell hP.box.c0
        have c1 := lat_cell hP.box.c1
        have c2 := lat_cell hP.box.c2
        have c3 := lat_cell hP.box.c3
        have d0 := lat_cell hQ.box.c0
        have d1 := lat_cell hQ.box.c1
        have d2 := lat_cell hQ.box.c2
        have d3 := lat_cell hQ.box.c3
        dsimp only at c0 c1 c2 c3 d0 d1 d2 d3
        refine text_begin (S := fun w' => ∃ u : Lat w, w' = u.val) (by kernel_rfl) ?_
        refine seg_range [(0, 19)] 29 (by kernel_rfl) (by kernel_rfl) (by kernel_rfl) (by kernel_rfl) (by kernel_rfl) ⟨⟨_, hW⟩, rfl⟩ ?_
        simp only [pickR, List.toList_toArray, List.flatMap_cons, List.flatMap_nil, List.drop_succ_cons, List.drop_zero, List.take_succ_cons, List.take_zero, List.cons_append, List.nil_append, List.append_nil]
        repeat go_big_quiet_step (fail)
        refine wpQuiet_nil ?_
        refine skip_at 19 (some 25) 28 (by kernel_rfl) (by kernel_rfl) (by kernel_rfl) (by kernel_rfl) (by kernel_rfl) ⟨⟨_, hW⟩, rfl⟩ ?_
        simp only [Act.put, List.setIfInBounds_toArray, List.set_cons_zero, List.set_cons_succ]
        refine seg_range [(20, 8), (29, 4)] 16 (by kernel_rfl) (by kernel_rfl) (by kernel_rfl) (by kernel_rfl) (by kernel_rfl) ⟨⟨_, hW⟩, rfl⟩ ?_
        simp only [pickR, List.toList_toArray, List.flatMap_cons, List.flatMap_nil, List.drop_succ_cons, List.drop_zero, List.take_succ_cons, List.take_zero, List.cons_append, List.nil_append, List.append_nil]
        repeat go_big_quiet_step (fail)
        refine wpQuiet_nil ?_
        refine quiet_at 28 (some 34) (.int .i64 (rs'.length : Int)) 15 (by kernel_rfl) (by kernel_rfl) (by kernel_rfl) (by kernel_rfl) (by kernel_rfl) (fun u _ => by kernel_rfl) ⟨⟨_, hW⟩, rfl⟩ ?_
        simp only [Act.put, List.setIfInBounds_toArray, List.set_cons_zero, List.set_cons_succ]
        refine quiet_at 33 (some 39) (.int .i64 (rs.length : Int)) 14 (by kernel_rfl) (by kernel_rfl) (by kernel_rfl) (by kernel_rfl) (by kernel_rfl) (fun u _ => by kernel_rfl) ⟨⟨_, hW⟩, rfl⟩ ?_
        simp only [Act.put, List.setIfInBounds_toArray, List.set_cons_zero, List.set_cons_succ]
        refine seg_range [(34, 11)] 3 (by kernel_rfl) (by kernel_rfl) (by kernel_rfl) (by kernel_rfl) (by kernel_rfl) ⟨⟨_, hW⟩, rfl⟩ ?_
        simp only [pickR, List.toList_toArray, List.flatMap_cons, List.flatMap_nil, List.drop_succ_cons, List.drop_zero, List.take_succ_cons, List.take_zero, List.cons_append, List.nil_append, List.append_nil]
        repeat go_big_quiet_step (fail)
        refine wpQuiet_nil ?_
        refine call_at 45 (some 51) 155 #[.slice a3 dc.length k3, .slice b3 dc'.length m3] 2 (by kernel_rfl) (by kernel_rfl) (by kernel_rfl) (by kernel_rfl) (by kernel_rfl) ?_
        refine (e3 _ (hD.below hW) (gD.below hW)).mono ?_
        rintro e w9 ⟨rfl, hb9⟩
        replace hW := hW.trans (hb9.mono hW.size)
        clear hb9
        refine ⟨_, rfl, ⟨⟨_, hW⟩, rfl⟩, ?_⟩
        simp only [Act.put, List.setIfInBounds_toArray, List.set_cons_zero, List.set_cons_succ]
        refine seg_range [(46, 2)] 0 (by kernel_rfl) (by kernel_rfl) (by kernel_rfl) (by kernel_rfl) (by kernel_rfl) ⟨⟨_, hW⟩, rfl⟩ ?_
        simp only [pickR, List.toList_toArray, List.flatMap_cons, List.flatMap_nil, List.drop_succ_cons, List.drop_zero, List.take_succ_cons, List.take_zero, List.cons_append, List.nil_append, List.append_nil]
        repeat go_big_quiet_step (fail)
        refine wpQuiet_nil ?_
        refine text_end (by kernel_rfl) ?_
        replace hB := hB.trans (hW.mono hB.size)
        clear c0 c1 c2 c3 d0 d1 d2 d3 hW hnn
        clear e1 e3 hd hd2 hT gT hD gD
        have hP9 := hP.below hB
        obtain ⟨c0, c1, c2, c3⟩ := hP9.box
        dsimp only at c0 c1 c2 c3
        go_wp2
        clear c0 c1 c2 c3 hP9
        go_loopw [5] (fun j wr => ∃ k : Nat, k ≤ rs.length ∧ j = .int .i64 k ∧ Hid (∀ j, j < k → kpR ((rs.map RoundQ.e).getD j rndNo) ((rs'.map RoundQ.e).getD j rndNo) = true) ∧ Below w.heap.size w wr) (fun j _ => rs.length - (intOf j).toNat)
        case atStart => exact ⟨0, Nat.zero_le _, rfl, fun j hj => absurd hj (Nat.not_lt_zero _), hB⟩
        case round =>
          clear hB
          obtain ⟨k, hk, rfl, HA, hB⟩ := hrel
          have hPr := hP.below hB
          have hQr := hQ.below hB
          have HS0 := hPr.box.c2
          have hs0 := hPr.box.c2
          dsimp only at hs0
          by_cases hlt : k < rs.length
          · have hlt' : k < rs'.length := by have := HL.out; omega
            obtain ⟨rb, ro, rfl, hbs, hc, hrd⟩ := (hR.below hB).cell (by decide) k hlt
            obtain ⟨rb', ro', rfl, hbs', hd2, hrd'⟩ := (gR.below hB).cell (by decide) k hlt'
            have hc' : ∀ j x, (roundK.cells rs[k])[j]? = some x → wr.cell? ⟨rb, ro + k * 2 + j, none⟩ = some x := hc
            have hd' : ∀ j x, (roundK.cells rs'[k])[j]? = some x → wr.cell? ⟨rb', ro' + k * 2 + j, none⟩ = some x := hd2
            have f0 := hc' 0 (rs[k].vr) rfl
            have f1 := hc' 1 (rs[k].vp) rfl
            have g0 := hd' 0 (rs'[k].vr) rfl
            have g1 := hd' 1 (rs'[k].vp) rfl
            have w1 := hw _ (List.getElem_mem hlt)
            have w2 := hw' _ (List.getElem_mem hlt')
            have HY : Hid (kpR (RoundQ.e rs[k]) (RoundQ.e rs'[k]) = false → E = false) := fun hx => by
              rw [HE2.out, kpRs_bad k (by simpa using hlt) (by rw [rnd_get rs k hlt, rnd_get rs' k hlt']; exact hx)]
            have HN : Hid (kpR (RoundQ.e rs[k]) (RoundQ.e rs'[k]) = true → ∀ j, j < k + 1 → kpR ((rs.map RoundQ.e).getD j rndNo) ((rs'.map RoundQ.e).getD j rndNo) = true) := fun hx j hj => by
              by_cases hjk : j = k
              · subst hjk
                rw [rnd_get rs j hlt, rnd_get rs' j hlt']
                exact hx
              · exact HA.out j (by omega)
            clear HA hc hc' hd2 hd' HS0
            generalize rs[k] = p at *
            generalize rs'[k] = q at *
            obtain ⟨pv, pr, pw, pp⟩ := p
            obtain ⟨qv, qr, qw, qp⟩ := q
            obtain ⟨u1, u2⟩ : intK.At wr pv pr ∧ intK.At wr pw pp := hrd
            obtain ⟨t1, t2⟩ : intK.At wr qv qr ∧ intK.At wr qw qp := hrd'
            obtain ⟨x1, j1, rfl⟩ := u1.shape
            obtain ⟨x2, j2, rfl⟩ := u2.shape
            obtain ⟨y1, l1, rfl⟩ := t1.shape
            obtain ⟨y2, l2, rfl⟩ := t2.shape
            dsimp only [RoundQ.e, kpR] at f0 f1 g0 g1 w1 w2 HY HN
            rw [Nat.add_zero] at f0 g0
            have s1 := fun w h h' => l7Keeps_any (.slice x1 pr.length j1) (.slice y1 qr.length l1) pr qr w h h' w1.1 w2.1
            have s2 := fun w h h' => l7Keeps_any (.slice x2 pp.length j2) (.slice y2 qp.length l2) pp qp w h h' w1.2 w2.2
            clear w1 w2
            generalize kps pr qr = X1 at *
            generalize kps pp qp = X2 at *
            have hW : Below wr.heap.size wr wr.drew := (Below.refl _ _).drew
            have hnn : Nonempty (Lat wr) := ⟨⟨wr, Below.refl _ _⟩⟩
            have c2 := lat_cell hPr.box.c2
            have d2 := lat_cell hQr.box.c2
            have v0 := lat_cell f0
            have v1 := lat_cell f1
            have z0 := lat_cell g0
            have z1 := lat_cell g1
            dsimp only at c2 d2
            have hlti : (k : Int) < (rs.length : Int) := by omega
            have hlti' : (k : Int) < (rs'.length : Int) := by omega
            clear f0 f1 g0 g1
            go_wp2_with fail
            clear hs0
            cases X1 with
            | false =>
              have E1 : Hid (E = false) := HY.out rfl
              refine text_begin (S := fun w' => ∃ u : Lat wr, w' = u.val) (by kernel_rfl) ?_
              refine seg_range [(0, 16)] 22 (by kernel_rfl) (by kernel_rfl) (by kernel_rfl) (by kernel_rfl) (by kernel_rfl) ⟨⟨_, hW⟩, rfl⟩ ?_
              simp only [pickR, List.toList_toArray, List.flatMap_cons, List.flatMap_nil, List.drop_succ_cons, List.drop_zero, List.take_succ_cons, List.take_zero, List.cons_append, List.nil_append, List.append_nil]
              repeat go_big_quiet_step (fail)
              refine wpQuiet_nil ?_
              refine call_at 16 (some 79) 155 #[.slice x1 pr.length j1, .slice y1 qr.length l1] 21 (by kernel_rfl) (by kernel_rfl) (by kernel_rfl) (by kernel_rfl) (by kernel_rfl) ?_
              refine (s1 _ (u1.below hW) (t1.below hW)).mono ?_
              rintro e w9 ⟨rfl, hb9⟩
              replace hW := hW.trans (hb9.mono hW.size)
              clear hb9
              refine ⟨_, rfl, ⟨⟨_, hW⟩, rfl⟩, ?_⟩
              simp only [Act.put, List.setIfInBounds_toArray, List.set_cons_zero, List.set_cons_succ]
              refine seg_range [(17, 18)] 3 (by kernel_rfl) (by kernel_rfl) (by kernel_rfl) (by kernel_rfl) (by kernel_rfl) ⟨⟨_, hW⟩, rfl⟩ ?_
              simp only [pickR, List.toList_toArray, List.flatMap_cons, List.flatMap_nil, List.drop_succ_cons, List.drop_zero, List.take_succ_cons, List.take_zero, List.cons_append, List.nil_append, List.append_nil]
              repeat go_big_quiet_step (fail)
              refine wpQuiet_nil ?_
              refine skip_at 35 (some 98) 2 (by kernel_rfl) (by kernel_rfl) (by kernel_rfl) (by kernel_rfl) (by kernel_rfl) ⟨⟨_, hW⟩, rfl⟩ ?_
              simp only [Act.put, List.setIfInBounds_toArray, List.set_cons_zero, List.set_cons_succ]
              refine seg_range [(36, 2)] 0 (by kernel_rfl) (by kernel_rfl) (by kernel_rfl) (by kernel_rfl) (by kernel_rfl) ⟨⟨_, hW⟩, rfl⟩ ?_
              simp only [pickR, List.toList_toArray, List.flatMap_cons, List.flatMap_nil, List.drop_succ_cons, List.drop_zero, List.take_succ_cons, List.take_zero, List.cons_append, List.nil_append, List.append_nil]
              repeat go_big_quiet_step (fail)
              refine wpQuiet_nil ?_
              refine text_end (by kernel_rfl) ?_
              replace hB := hB.trans (hW.mono hB.size)
              clear c2 d2 v0 v1 z0 z1 hW hnn s1 s2 HY HN HE2
              go_wp2
              go_ret
              exact ⟨by rw [E1.out]; rfl, hB⟩
            | true =>
              cases X2 with
              | false =>
                have E1 : Hid (E = false) := HY.out rfl
                refine text_begin (S := fun w' => ∃ u : Lat wr, w' = u.val) (by kernel_rfl) ?_
                refine seg_range [(0, 16)] 22 (by kernel_rfl) (by kernel_rfl) (by kernel_rfl) (by kernel_rfl) (by kernel_rfl) ⟨⟨_, hW⟩, rfl⟩ ?_
                simp only [pickR, List.toList_toArray, List.flatMap_cons, List.flatMap_nil, List.drop_succ_cons, List.drop_zero, List.take_succ_cons, List.take_zero, List.cons_append, List.nil_append, List.append_nil]
                repeat go_big_quiet_step (fail)
                refine wpQuiet_nil ?_
                refine call_at 16 (some 79) 155 #[.slice x1 pr.length j1, .slice y1 qr.length l1] 21 (by kernel_rfl) (by kernel_rfl) (by kernel_rfl) (by kernel_rfl) (by kernel_rfl) ?_
                refine (s1 _ (u1.below hW) (t1.below hW)).mono ?_
                rintro e w9 ⟨rfl, hb9⟩
                replace hW := hW.trans (hb9.mono hW.size)
                clear hb9
                refine ⟨_, rfl, ⟨⟨_, hW⟩, rfl⟩, ?_⟩
                simp only [Act.put, List.setIfInBounds_toArray, List.set_cons_zero, List.set_cons_succ]
                refine seg_range [(17, 18)] 3 (by kernel_rfl) (by kernel_rfl) (by kernel_rfl) (by kernel_rfl) (by kernel_rfl) ⟨⟨_, hW⟩, rfl⟩ ?_
                simp only [pickR, List.toList_toArray, List.flatMap_cons, List.flatMap_nil, List.drop_succ_cons, List.drop_zero, List.take_succ_cons, List.take_zero, List.cons_append, List.nil_append, List.append_nil]
                repeat go_big_quiet_step (fail)
                refine wpQuiet_nil ?_
                refine call_at 35 (some 98) 155 #[.slice x2 pp.length j2, .slice y2 qp.length l2] 2 (by kernel_rfl) (by kernel_rfl) (by kernel_rfl) (by kernel_rfl) (by kernel_rfl) ?_
                refine (s2 _ (u2.below hW) (t2.below hW)).mono ?_
                rintro e w9 ⟨rfl, hb9⟩
                replace hW := hW.trans (hb9.mono hW.size)
                clear hb9
                refine ⟨_, rfl, ⟨⟨_, hW⟩, rfl⟩, ?_⟩
                simp only [Act.put, List.setIfInBounds_toArray, List.set_cons_zero, List.set_cons_succ]
                refine seg_range [(36, 2)] 0 (by kernel_rfl) (by kernel_rfl) (by kernel_rfl) (by kernel_rfl) (by kernel_rfl) ⟨⟨_, hW⟩, rfl⟩ ?_
                simp only [pickR, List.toList_toArray, List.flatMap_cons, List.flatMap_nil, List.drop_succ_cons, List.drop_zero, List.take_succ_cons, List.take_zero, List.cons_append, List.nil_append, List.append_nil]
                repeat go_big_quiet_step (fail)
                refine wpQuiet_nil ?_
                refine text_end (by kernel_rfl) ?_
                replace hB := hB.trans (hW.mono hB.size)
                clear c2 d2 v0 v1 z0 z1 hW hnn s1 s2 HY HN HE2
                go_wp2
                go_ret
                exact ⟨by rw [E1.out]; rfl, hB⟩
              | true =>
                have HR := HN.out rfl
                have HR' : Hid _ := HR
                refine text_begin (S := fun w' => ∃ u : Lat wr, w' = u.val) (by kernel_rfl) ?_
                refine seg_range [(0, 16)] 22 (by kernel_rfl) (by kernel_rfl) (by kernel_rfl) (by kernel_rfl) (by kernel_rfl) ⟨⟨_, hW⟩, rfl⟩ ?_
                simp only [pickR, List.toList_toArray, List.flatMap_cons, List.flatMap_nil, List.drop_succ_cons, List.drop_zero, List.take_succ_cons, List.take_zero, List.cons_append, List.nil_append, List.append_nil]
                repeat go_big_quiet_step (fail)
                refine wpQuiet_nil ?_
                refine call_at 16 (some 79) 155 #[.slice x1 pr.length j1, .slice y1 qr.length l1] 21 (by kernel_rfl) (by kernel_rfl) (by kernel_rfl) (by kernel_rfl) (by kernel_rfl) ?_
                refine (s1 _ (u1.below hW) (t1.below hW)).mono ?_
                rintro e w9 ⟨rfl, hb9⟩
                replace hW := hW.trans (hb9.mono hW.size)
                clear hb9
                refine ⟨_, rfl, ⟨⟨_, hW⟩, rfl⟩, ?_⟩
                simp only [Act.put, List.setIfInBounds_toArray, List.set_cons_zero, List.set_cons_succ]
                refine seg_range [(17, 18)] 3 (by kernel_rfl) (by kernel_rfl) (by kernel_rfl) (by kernel_rfl) (by kernel_rfl) ⟨⟨_, hW⟩, rfl⟩ ?_
                simp only [pickR, List.toList_toArray, List.flatMap_cons, List.flatMap_nil, List.drop_succ_cons, List.drop_zero, List.take_succ_cons, List.take_zero, List.cons_append, List.nil_append, List.append_nil]
                repeat go_big_quiet_step (fail)
                refine wpQuiet_nil ?_
                refine call_at 35 (some 98) 155 #[.slice x2 pp.length j2, .slice y2 qp.length l2] 2 (by kernel_rfl) (by kernel_rfl) (by kernel_rfl) (by kernel_rfl) (by kernel_rfl) ?_
                refine (s2 _ (u2.below hW) (t2.below hW)).mono ?_
                rintro e w9 ⟨rfl, hb9⟩
                replace hW := hW.trans (hb9.mono hW.size)
                clear hb9
                refine ⟨_, rfl, ⟨⟨_, hW⟩, rfl⟩, ?_⟩
                simp only [Act.put, List.setIfInBounds_toArray, List.set_cons_zero, List.set_cons_succ]
                refine seg_range [(36, 2)] 0 (by kernel_rfl) (by kernel_rfl) (by kernel_rfl) (by kernel_rfl) (by kernel_rfl) ⟨⟨_, hW⟩, rfl⟩ ?_
                simp only [pickR, List.toList_toArray, List.flatMap_cons, List.flatMap_nil, List.drop_succ_cons, List.drop_zero, List.take_succ_cons, List.take_zero, List.cons_append, List.nil_append, List.append_nil]
                repeat go_big_quiet_step (fail)
                refine wpQuiet_nil ?_
                refine text_end (by kernel_rfl) ?_
                replace hB := hB.trans (hW.mono hB.size)
                clear c2 d2 v0 v1 z0 z1 hW hnn s1 s2 HY HN HR
                go_wp2
                go_roundw
                case rel => exact ⟨k + 1, by omega, by go_num, HR'.out, hB⟩
                case measure => simp [intOf]; omega
          · have E1 : Hid (E = true) := by rw [HE2.out]; exact kpRs_all (fun j hj => HA.out j (by simp at hj; omega))
            have hlti : ¬ (k : Int) < (rs.length : Int) := by omega
            clear HA HE2 HS0
            go_wp2
            go_ret
            exact ⟨by rw [E1.out]; rfl, hB⟩
      | true =>
        cases h2 with
        | false =>
          have E1 : Hid (E = false) := show _ = _ by rw [HE.out]; simp
          have hW : Below w.heap.size w w.drew := (Below.refl _ _).drew
          have hnn : Nonempty (Lat w) := ⟨⟨w, Below.refl _ _⟩⟩
          have c0 := lat_cell hP.box.c0
          have c1 := lat_cell hP.box.c1
          have c2 := lat_cell hP.box.c2
          have c3 := lat_cell hP.box.c3
          have d0 := lat_cell hQ.box.c0
          have d1 := lat_cell hQ.box.c1
          have d2 := lat_cell hQ.box.c2
          have d3 := lat_cell hQ.box.c3
          dsimp only at c0 c1 c2 c3 d0 d1 d2 d3
          clear HE
          refine text_begin (S := fun w' => ∃ u : Lat w, w' = u.val) (by kernel_rfl) ?_
          refine seg_range [(0, 19)] 29 (by kernel_rfl) (by kernel_rfl) (by kernel_rfl) (by kernel_rfl) (by kernel_rfl) ⟨⟨_, hW⟩, rfl⟩ ?_
          simp only [pickR, List.toList_toArray, List.flatMap_cons, List.flatMap_nil, List.drop_succ_cons, List.drop_zero, List.take_succ_cons, List.take_zero, List.cons_append, List.nil_append, List.append_nil]
          repeat go_big_quiet_step (fail)
          refine wpQuiet_nil ?_
          refine skip_at 19 (some 25) 28 (by kernel_rfl) (by kernel_rfl) (by kernel_rfl) (by kernel_rfl) (by kernel_rfl) ⟨⟨_, hW⟩, rfl⟩ ?_
          simp only [Act.put, List.setIfInBounds_toArray, List.set_cons_zero, List.set_cons_succ]
          refine seg_range [(20, 8), (29, 4)] 16 (by kernel_rfl) (by kernel_rfl) (by kernel_rfl) (by kernel_rfl) (by kernel_rfl) ⟨⟨_, hW⟩, rfl⟩ ?_
          simp only [pickR, List.toList_toArray, List.flatMap_cons, List.flatMap_nil, List.drop_succ_cons, List.drop_zero, List.take_succ_cons, List.take_zero, List.cons_append, List.nil_append, List.append_nil]
          repeat go_big_quiet_step (fail)
          refine wpQuiet_nil ?_
          refine skip_at 28 (some 34) 15 (by kernel_rfl) (by kernel_rfl) (by kernel_rfl) (by kernel_rfl) (by kernel_rfl) ⟨⟨_, hW⟩, rfl⟩ ?_
          simp only [Act.put, List.setIfInBounds_toArray, List.set_cons_zero, List.set_cons_succ]
          refine skip_at 33 (some 39) 14 (by kernel_rfl) (by kernel_rfl) (by kernel_rfl) (by kernel_rfl) (by kernel_rfl) ⟨⟨_, hW⟩, rfl⟩ ?_
          simp only [Act.put, List.setIfInBounds_toArray, List.set_cons_zero, List.set_cons_succ]
          refine seg_range [(34, 11)] 3 (by kernel_rfl) (by kernel_rfl) (by kernel_rfl) (by kernel_rfl) (by kernel_rfl) ⟨⟨_, hW⟩, rfl⟩ ?_
          simp only [pickR, List.toList_toArray, List.flatMap_cons, List.flatMap_nil, List.drop_succ_cons, List.drop_zero, List.take_succ_cons, List.take_zero, List.cons_append, List.nil_append, List.append_nil]
          repeat go_big_quiet_step (fail)
          refine wpQuiet_nil ?_
          refine skip_at 45 (some 51) 2 (by kernel_rfl) (by kernel_rfl) (by kernel_rfl) (by kernel_rfl) (by kernel_rfl) ⟨⟨_, hW⟩, rfl⟩ ?_
          simp only [Act.put, List.setIfInBounds_toArray, List.set_cons_zero, List.set_cons_succ]
          refine seg_range [(46, 2)] 0 (by kernel_rfl) (by kernel_rfl) (by kernel_rfl) (by kernel_rfl) (by kernel_rfl) ⟨⟨_, hW⟩, rfl⟩ ?_
          simp only [pickR, List.toList_toArray, List.flatMap_cons, List.flatMap_nil, List.drop_succ_cons, List.drop_zero, List.take_succ_cons, List.take_zero, List.cons_append, List.nil_append, List.append_nil]
          repeat go_big_quiet_step (fail)
          refine wpQuiet_nil ?_
          refine text_end (by kernel_rfl) ?_
          replace hB := hB.trans (hW.mono hB.size)
          clear c0 c1 c2 c3 d0 d1 d2 d3 hW hnn
          go_wp2
          go_ret
          exact ⟨by rw [E1.out]; rfl, hB⟩
        | true =>
          cases X with
          | false =>
            have E1 : Hid (E = false) := show _ = _ by rw [HE.out]; simp
            have hW : Below w.heap.size w w.drew := (Below.refl _ _).drew
            have hnn : Nonempty (Lat w) := ⟨⟨w, Below.refl _ _⟩⟩
            have c0 := lat_cell hP.box.c0
            have c1 := lat_cell hP.box.c1
            have c2 := lat_cell hP.box.c2
            have c3 := lat_cell hP.box.c3
            have d0 := lat_cell hQ.box.c0
            have d1 := lat_cell hQ.box.c1
            have d2 := lat_cell hQ.box.c2
            have d3 := lat_cell hQ.box.c3
            dsimp only at c0 c1 c2 c3 d0 d1 d2 d3
            clear HE
            refine text_begin (S := fun w' => ∃ u : Lat w, w' = u.val) (by kernel_rfl) ?_
            refine seg_range [(0, 19)] 29 (by kernel_rfl) (by kernel_rfl) (by kernel_rfl) (by kernel_rfl) (by kernel_rfl) ⟨⟨_, hW⟩, rfl⟩ ?_
            simp only [pickR, List.toList_toArray, List.flatMap_cons, List.flatMap_nil, List.drop_succ_cons, List.drop_zero, List.take_succ_cons, List.take_zero, List.cons_append, List.nil_append, List.append_nil]
            repeat go_big_quiet_step (fail)
            refine wpQuiet_nil ?_
            refine call_at 19 (some 25) 154 #[.slice a1 bt.length k1, .slice b1 bt'.length m1] 28 (by kernel_rfl) (by kernel_rfl) (by kernel_rfl) (by kernel_rfl) (by kernel_rfl) ?_
            refine (e1 _ (txnsAt_of' (hT.below hW)) (txnsAt_of' (gT.below hW))).mono ?_
            rintro e w9 ⟨rfl, hb9⟩
            replace hW := hW.trans (hb9.mono hW.size)
            clear hb9
            refine ⟨_, rfl, ⟨⟨_, hW⟩, rfl⟩, ?_⟩
            simp only [Act.put, List.setIfInBounds_toArray, List.set_cons_zero, List.set_cons_succ]
            refine seg_range [(20, 8), (29, 4)] 16 (by kernel_rfl) (by kernel_rfl) (by kernel_rfl) (by kernel_rfl) (by kernel_rfl) ⟨⟨_, hW⟩, rfl⟩ ?_
            simp only [pickR, List.toList_toArray, List.flatMap_cons, List.flatMap_nil, List.drop_succ_cons, List.drop_zero, List.take_succ_cons, List.take_zero, List.cons_append, List.nil_append, List.append_nil]
            repeat go_big_quiet_step (fail)
            refine wpQuiet_nil ?_
            refine skip_at 28 (some 34) 15 (by kernel_rfl) (by kernel_rfl) (by kernel_rfl) (by kernel_rfl) (by kernel_rfl) ⟨⟨_, hW⟩, rfl⟩ ?_
            simp only [Act.put, List.setIfInBounds_toArray, List.set_cons_zero, List.set_cons_succ]
            refine skip_at 33 (some 39) 14 (by kernel_rfl) (by kernel_rfl) (by kernel_rfl) (by kernel_rfl) (by kernel_rfl) ⟨⟨_, hW⟩, rfl⟩ ?_
            simp only [Act.put, List.setIfInBounds_toArray, List.set_cons_zero, List.set_cons_succ]
            refine seg_range [(34, 11)] 3 (by kernel_rfl) (by kernel_rfl) (by kernel_rfl) (by kernel_rfl) (by kernel_rfl) ⟨⟨_, hW⟩, rfl⟩ ?_
            simp only [pickR, List.toList_toArray, List.flatMap_cons, List.flatMap_nil, List.drop_succ_cons, List.drop_zero, List.take_succ_cons, List.take_zero, List.cons_append, List.nil_append, List.append_nil]
            repeat go_big_quiet_step (fail)
            refine wpQuiet_nil ?_
            refine skip_at 45 (some 51) 2 (by kernel_rfl) (by kernel_rfl) (by kernel_rfl) (by kernel_rfl) (by kernel_rfl) ⟨⟨_, hW⟩, rfl⟩ ?_
            simp only [Act.put, List.setIfInBounds_toArray, List.set_cons_zero, List.set_cons_succ]
            refine seg_range [(46, 2)] 0 (by kernel_rfl) (by kernel_rfl) (by kernel_rfl) (by kernel_rfl) (by kernel_rfl) ⟨⟨_, hW⟩, rfl⟩ ?_
            simp only [pickR, List.toList_toArray, List.flatMap_cons, List.flatMap_nil, List.drop_succ_cons, List.drop_zero, List.take_succ_cons, List.take_zero, List.cons_append, List.nil_append, List.append_nil]
            repeat go_big_quiet_step (fail)
            refine wpQuiet_nil ?_
            refine text_end (by kernel_rfl) ?_
            replace hB := hB.trans (hW.mono hB.size)
            clear c0 c1 c2 c3 d0 d1 d2 d3 hW hnn
            go_wp2
            go_ret
            exact ⟨by rw [E1.out]; rfl, hB⟩
          | true =>
            have HE2 : Hid (E = kpRs (rs.map RoundQ.e) (rs'.map RoundQ.e)) := show _ = _ by rw [HE.out]; simp
            clear HE
            have hW : Below w.heap.size w w.drew := (Below.refl _ _).drew
            have hnn : Nonempty (Lat w) := ⟨⟨w, Below.refl _ _⟩⟩
            have c0 := lat_cell hP.box.c0
            have c1 := lat_cell hP.box.c1
            have c2 := lat_cell hP.box.c2
            have c3 := lat_cell hP.box.c3
            have d0 := lat_cell hQ.box.c0
            have d1 := lat_cell hQ.box.c1
            have d2 := lat_cell hQ.box.c2
            have d3 := lat_cell hQ.box.c3
            dsimp only at c0 c1 c2 c3 d0 d1 d2 d3
            refine text_begin (S := fun w' => ∃ u : Lat w, w' = u.val) (by kernel_rfl) ?_
            refine seg_range [(0, 19)] 29 (by kernel_rfl) (by kernel_rfl) (by kernel_rfl) (by kernel_rfl) (by kernel_rfl) ⟨⟨_, hW⟩, rfl⟩ ?_
            simp only [pickR, List.toList_toArray, List.flatMap_cons, List.flatMap_nil, List.drop_succ_cons, List.drop_zero, List.take_succ_cons, List.take_zero, List.cons_append, List.nil_append, List.append_nil]
            repeat go_big_quiet_step (fail)
            refine wpQuiet_nil ?_
            refine call_at 19 (some 25) 154 #[.slice a1 bt.length k1, .slice b1 bt'.length m1] 28 (by kernel_rfl) (by kernel_rfl) (by kernel_rfl) (by kernel_rfl) (by kernel_rfl) ?_
            refine (e1 _ (txnsAt_of' (hT.below hW)) (txnsAt_of' (gT.below hW))).mono ?_
            rintro e w9 ⟨rfl, hb9⟩
            replace hW := hW.trans (hb9.mono hW.size)
            clear hb9
            refine ⟨_, rfl, ⟨⟨_, hW⟩, rfl⟩, ?_⟩
            simp only [Act.put, List.setIfInBounds_toArray, List.set_cons_zero, List.set_cons_succ]
            refine seg_range [(20, 8), (29, 4)] 16 (by kernel_rfl) (by kernel_rfl) (by kernel_rfl) (by kernel_rfl) (by kernel_rfl) ⟨⟨_, hW⟩, rfl⟩ ?_
            simp only [pickR, List.toList_toArray, List.flatMap_cons, List.flatMap_nil, List.drop_succ_cons, List.drop_zero, List.take_succ_cons, List.take_zero, List.cons_append, List.nil_append, List.append_nil]
            repeat go_big_quiet_step (fail)
            refine wpQuiet_nil ?_
            refine quiet_at 28 (some 34) (.int .i64 (rs'.length : Int)) 15 (by kernel_rfl) (by kernel_rfl) (by kernel_rfl) (by kernel_rfl) (by kernel_rfl) (fun u _ => by kernel_rfl) ⟨⟨_, hW⟩, rfl⟩ ?_
            simp only [Act.put, List.setIfInBounds_toArray, List.set_cons_zero, List.set_cons_succ]
            refine quiet_at 33 (some 39) (.int .i64 (rs.length : Int)) 14 (by kernel_rfl) (by kernel_rfl) (by kernel_rfl) (by kernel_rfl) (by kernel_rfl) (fun u _ => by kernel_rfl) ⟨⟨_, hW⟩, rfl⟩ ?_
            simp only [Act.put, List.setIfInBounds_toArray, List.set_cons_zero, List.set_cons_succ]
            refine seg_range [(34, 11)] 3 (by kernel_rfl) (by kernel_rfl) (by kernel_rfl) (by kernel_rfl) (by kernel_rfl) ⟨⟨_, hW⟩, rfl⟩ ?_
            simp only [pickR, List.toList_toArray, List.flatMap_cons, List.flatMap_nil, List.drop_succ_cons, List.drop_zero, List.take_succ_cons, List.take_zero, List.cons_append, List.nil_append, List.append_nil]
            repeat go_big_quiet_step (fail)
            refine wpQuiet_nil ?_
            refine call_at 45 (some 51) 155 #[.slice a3 dc.length k3, .slice b3 dc'.length m3] 2 (by kernel_rfl) (by kernel_rfl) (by kernel_rfl) (by kernel_rfl) (by kernel_rfl) ?_
            refine (e3 _ (hD.below hW) (gD.below hW)).mono ?_
            rintro e w9 ⟨rfl, hb9⟩
            replace hW := hW.trans (hb9.mono hW.size)
            clear hb9
            refine ⟨_, rfl, ⟨⟨_, hW⟩, rfl⟩, ?_⟩
            simp only [Act.put, List.setIfInBounds_toArray, List.set_cons_zero, List.set_cons_succ]
            refine seg_range [(46, 2)] 0 (by kernel_rfl) (by kernel_rfl) (by kernel_rfl) (by kernel_rfl) (by kernel_rfl) ⟨⟨_, hW⟩, rfl⟩ ?_
            simp only [pickR, List.toList_toArray, List.flatMap_cons, List.flatMap_nil, List.drop_succ_cons, List.drop_zero, List.take_succ_cons, List.take_zero, List.cons_append, List.nil_append, List.append_nil]
            repeat go_big_quiet_step (fail)
            refine wpQuiet_nil ?_
            refine text_end (by kernel_rfl) ?_
            replace hB := hB.trans (hW.mono hB.size)
            clear c0 c1 c2 c3 d0 d1 d2 d3 hW hnn
            clear e1 e3 hd hd2 hT gT hD gD
            have hP9 := hP.below hB
            obtain ⟨c0, c1, c2, c3⟩ := hP9.box
            dsimp only at c0 c1 c2 c3
            go_wp2
            clear c0 c1 c2 c3 hP9
            go_loopw [5] (fun j wr => ∃ k : Nat, k ≤ rs.length ∧ j = .int .i64 k ∧ Hid (∀ j, j < k → kpR ((rs.map RoundQ.e).getD j rndNo) ((rs'.map RoundQ.e).getD j rndNo) = true) ∧ Below w.heap.size w wr) (fun j _ => rs.length - (intOf j).toNat)
            case atStart => exact ⟨0, Nat.zero_le _, rfl, fun j hj => absurd hj (Nat.not_lt_zero _), hB⟩
            case round =>
              clear hB
              obtain ⟨k, hk, rfl, HA, hB⟩ := hrel
              have hPr := hP.below hB
              have hQr := hQ.below hB
              have HS0 := hPr.box.c2
              have hs0 := hPr.box.c2
              dsimp only at hs0
              by_cases hlt : k < rs.length
              · have hlt' : k < rs'.length := by have := HL.out; omega
                obtain ⟨rb, ro, rfl, hbs, hc, hrd⟩ := (hR.below hB).cell (by decide) k hlt
                obtain ⟨rb', ro', rfl, hbs', hd2, hrd'⟩ := (gR.below hB).cell (by decide) k hlt'
                have hc' : ∀ j x, (roundK.cells rs[k])[j]? = some x → wr.cell? ⟨rb, ro + k * 2 + j, none⟩ = some x := hc
                have hd' : ∀ j x, (roundK.cells rs'[k])[j]? = some x → wr.cell? ⟨rb', ro' + k * 2 + j, none⟩ = some x := hd2
                have f0 := hc' 0 (rs[k].vr) rfl
                have f1 := hc' 1 (rs[k].vp) rfl
                have g0 := hd' 0 (rs'[k].vr) rfl
                have g1 := hd' 1 (rs'[k].vp) rfl
                have w1 := hw _ (List.getElem_mem hlt)
                have w2 := hw' _ (List.getElem_mem hlt')
                have HY : Hid (kpR (RoundQ.e rs[k]) (RoundQ.e rs'[k]) = false → E = false) := fun hx => by
                  rw [HE2.out, kpRs_bad k (by simpa using hlt) (by rw [rnd_get rs k hlt, rnd_get rs' k hlt']; exact hx)]
                have HN : Hid (kpR (RoundQ.e rs[k]) (RoundQ.e rs'[k]) = true → ∀ j, j < k + 1 → kpR ((rs.map RoundQ.e).getD j rndNo) ((rs'.map RoundQ.e).getD j rndNo) = true) := fun hx j hj => by
                  by_cases hjk : j = k
                  · subst hjk
                    rw [rnd_get rs j hlt, rnd_get rs' j hlt']
                    exact hx
                  · exact HA.out j (by omega)
                clear HA hc hc' hd2 hd' HS0
                generalize rs[k] = p at *
                generalize rs'[k] = q at *
                obtain ⟨pv, pr, pw, pp⟩ := p
                obtain ⟨qv, qr, qw, qp⟩ := q
                obtain ⟨u1, u2⟩ : intK.At wr pv pr ∧ intK.At wr pw pp := hrd
                obtain ⟨t1, t2⟩ : intK.At wr qv qr ∧ intK.At wr qw qp := hrd'
                obtain ⟨x1, j1, rfl⟩ := u1.shape
                obtain ⟨x2, j2, rfl⟩ := u2.shape
                obtain ⟨y1, l1, rfl⟩ := t1.shape
                obtain ⟨y2, l2, rfl⟩ := t2.shape
                dsimp only [RoundQ.e, kpR] at f0 f1 g0 g1 w1 w2 HY HN
                rw [Nat.add_zero] at f0 g0
                have s1 := fun w h h' => l7Keeps_any (.slice x1 pr.length j1) (.slice y1 qr.length l1) pr qr w h h' w1.1 w2.1
                have s2 := fun w h h' => l7Keeps_any (.slice x2 pp.length j2) (.slice y2 qp.length l2) pp qp w h h' w1.2 w2.2
                clear w1 w2
                generalize kps pr qr = X1 at *
                generalize kps pp qp = X2 at *
                have hW : Below wr.heap.size wr wr.drew := (Below.refl _ _).drew
                have hnn : Nonempty (Lat wr) := ⟨⟨wr, Below.refl _ _⟩⟩
                have c2 := lat_cell hPr.box.c2
                have d2 := lat_cell hQr.box.c2
                have v0 := lat_cell f0
                have v1 := lat_cell f1
                have z0 := lat_cell g0
                have z1 := lat_cell g1
                dsimp only at c2 d2
                have hlti : (k : Int) < (rs.length : Int) := by omega
                have hlti' : (k : Int) < (rs'.length : Int) := by omega
                clear f0 f1 g0 g1
                go_wp2_with fail
                clear hs0
                cases X1 with
                | false =>
                  have E1 : Hid (E = false) := HY.out rfl
                  refine text_begin (S := fun w' => ∃ u : Lat wr, w' = u.val) (by kernel_rfl) ?_
                  refine seg_range [(0, 16)] 22 (by kernel_rfl) (by kernel_rfl) (by kernel_rfl) (by kernel_rfl) (by kernel_rfl) ⟨⟨_, hW⟩, rfl⟩ ?_
                  simp only [pickR, List.toList_toArray, List.flatMap_cons, List.flatMap_nil, List.drop_succ_cons, List.drop_zero, List.take_succ_cons, List.take_zero, List.cons_append, List.nil_append, List.append_nil]
                  repeat go_big_quiet_step (fail)
                  refine wpQuiet_nil ?_
                  refine call_at 16 (some 79) 155 #[.slice x1 pr.length j1, .slice y1 qr.length l1] 21 (by kernel_rfl) (by kernel_rfl) (by kernel_rfl) (by kernel_rfl) (by kernel_rfl) ?_
                  refine (s1 _ (u1.below hW) (t1.below hW)).mono ?_
                  rintro e w9 ⟨rfl, hb9⟩
                  replace hW := hW.trans (hb9.mono hW.size)
                  clear hb9
                  refine ⟨_, rfl, ⟨⟨_, hW⟩, rfl⟩, ?_⟩
                  simp only [Act.put, List.setIfInBounds_toArray, List.set_cons_zero, List.set_cons_succ]
                  refine seg_range [(17, 18)] 3 (by kernel_rfl) (by kernel_rfl) (by kernel_rfl) (by kernel_rfl) (by kernel_rfl) ⟨⟨_, hW⟩, rfl⟩ ?_
                  simp only [pickR, List.toList_toArray, List.flatMap_cons, List.flatMap_nil, List.drop_succ_cons, List.drop_zero, List.take_succ_cons, List.take_zero, List.cons_append, List.nil_append, List.append_nil]
                  repeat go_big_quiet_step (fail)
                  refine wpQuiet_nil ?_
                  refine skip_at 35 (some 98) 2 (by kernel_rfl) (by kernel_rfl) (by kernel_rfl) (by kernel_rfl) (by kernel_rfl) ⟨⟨_, hW⟩, rfl⟩ ?_
                  simp only [Act.put, List.setIfInBounds_toArray, List.set_cons_zero, List.set_cons_succ]
                  refine seg_range [(36, 2)] 0 (by kernel_rfl) (by kernel_rfl) (by kernel_rfl) (by kernel_rfl) (by kernel_rfl) ⟨⟨_, hW⟩, rfl⟩ ?_
                  simp only [pickR, List.toList_toArray, List.flatMap_cons, List.flatMap_nil, List.drop_succ_cons, List.drop_zero, List.take_succ_cons, List.take_zero, List.cons_append, List.nil_append, List.append_nil]
                  repeat go_big_quiet_step (fail)
                  refine wpQuiet_nil ?_
                  refine text_end (by kernel_rfl) ?_
                  replace hB := hB.trans (hW.mono hB.size)
                  clear c2 d2 v0 v1 z0 z1 hW hnn s1 s2 HY HN HE2
                  go_wp2
                  go_ret
                  exact ⟨by rw [E1.out]; rfl, hB⟩
                | true =>
                  cases X2 with
                  | false =>
                    have E1 : Hid (E = false) := HY.out rfl
                    refine text_begin (S := fun w' => ∃ u : Lat wr, w' = u.val) (by kernel_rfl) ?_
                    refine seg_range [(0, 16)] 22 (by kernel_rfl) (by kernel_rfl) (by kernel_rfl) (by kernel_rfl) (by kernel_rfl) ⟨⟨_, hW⟩, rfl⟩ ?_
                    simp only [pickR, List.toList_toArray, List.flatMap_cons, List.flatMap_nil, List.drop_succ_cons, List.drop_zero, List.take_succ_cons, List.take_zero, List.cons_append, List.nil_append, List.append_nil]
                    repeat go_big_quiet_step (fail)
                    refine wpQuiet_nil ?_
                    refine call_at 16 (some 79) 155 #[.slice x1 pr.length j1, .slice y1 qr.length l1] 21 (by kernel_rfl) (by kernel_rfl) (by kernel_rfl) (by kernel_rfl) (by kernel_rfl) ?_
                    refine (s1 _ (u1.below hW) (t1.below hW)).mono ?_
                    rintro e w9 ⟨rfl, hb9⟩
                    replace hW := hW.trans (hb9.mono hW.size)
                    clear hb9
                    refine ⟨_, rfl, ⟨⟨_, hW⟩, rfl⟩, ?_⟩
                    simp only [Act.put, List.setIfInBounds_toArray, List.set_cons_zero, List.set_cons_succ]
                    refine seg_range [(17, 18)] 3 (by kernel_rfl) (by kernel_rfl) (by kernel_rfl) (by kernel_rfl) (by kernel_rfl) ⟨⟨_, hW⟩, rfl⟩ ?_
                    simp only [pickR, List.toList_toArray, List.flatMap_cons, List.flatMap_nil, List.drop_succ_cons, List.drop_zero, List.take_succ_cons, List.take_zero, List.cons_append, List.nil_append, List.append_nil]
                    repeat go_big_quiet_step (fail)
                    refine wpQuiet_nil ?_
                    refine call_at 35 (some 98) 155 #[.slice x2 pp.length j2, .slice y2 qp.length l2] 2 (by kernel_rfl) (by kernel_rfl) (by kernel_rfl) (by kernel_rfl) (by kernel_rfl) ?_
                    refine (s2 _ (u2.below hW) (t2.below hW)).mono ?_
                    rintro e w9 ⟨rfl, hb9⟩
                    replace hW := hW.trans (hb9.mono hW.size)
                    clear hb9
                    refine ⟨_, rfl, ⟨⟨_, hW⟩, rfl⟩, ?_⟩
                    simp only [Act.put, List.setIfInBounds_toArray, List.set_cons_zero, List.set_cons_succ]
                    refine seg_range [(36, 2)] 0 (by kernel_rfl) (by kernel_rfl) (by kernel_rfl) (by kernel_rfl) (by kernel_rfl) ⟨⟨_, hW⟩, rfl⟩ ?_
                    simp only [pickR, List.toList_toArray, List.flatMap_cons, List.flatMap_nil, List.drop_succ_cons, List.drop_zero, List.take_succ_cons, List.take_zero, List.cons_append, List.nil_append, List.append_nil]
                    repeat go_big_quiet_step (fail)
                    refine wpQuiet_nil ?_
                    refine text_end (by kernel_rfl) ?_
                    replace hB := hB.trans (hW.mono hB.size)
                    clear c2 d2 v0 v1 z0 z1 hW hnn s1 s2 HY HN HE2
                    go_wp2
                    go_ret
                    exact ⟨by rw [E1.out]; rfl, hB⟩
                  | true =>
                    have HR := HN.out rfl
                    have HR' : Hid _ := HR
                    refine text_begin (S := fun w' => ∃ u : Lat wr, w' = u.val) (by kernel_rfl) ?_
                    refine seg_range [(0, 16)] 22 (by kernel_rfl) (by kernel_rfl) (by kernel_rfl) (by kernel_rfl) (by kernel_rfl) ⟨⟨_, hW⟩, rfl⟩ ?_
                    simp only [pickR, List.toList_toArray, List.flatMap_cons, List.flatMap_nil, List.drop_succ_cons, List.drop_zero, List.take_succ_cons, List.take_zero, List.cons_append, List.nil_append, List.append_nil]
                    repeat go_big_quiet_step (fail)
                    refine wpQuiet_nil ?_
                    refine call_at 16 (some 79) 155 #[.slice x1 pr.length j1, .slice y1 qr.length l1] 21 (by kernel_rfl) (by kernel_rfl) (by kernel_rfl) (by kernel_rfl) (by kernel_rfl) ?_
                    refine (s1 _ (u1.below hW) (t1.below hW)).mono ?_
                    rintro e w9 ⟨rfl, hb9⟩
                    replace hW := hW.trans (hb9.mono hW.size)
                    clear hb9
                    refine ⟨_, rfl, ⟨⟨_, hW⟩, rfl⟩, ?_⟩
                    simp only [Act.put, List.setIfInBounds_toArray, List.set_cons_zero, List.set_cons_succ]
                    refine seg_range [(17, 18)] 3 (by kernel_rfl) (by kernel_rfl) (by kernel_rfl) (by kernel_rfl) (by kernel_rfl) ⟨⟨_, hW⟩, rfl⟩ ?_
                    simp only [pickR, List.toList_toArray, List.flatMap_cons, List.flatMap_nil, List.drop_succ_cons, List.drop_zero, List.take_succ_cons, List.take_zero, List.cons_append, List.nil_append, List.append_nil]
                    repeat go_big_quiet_step (fail)
                    refine wpQuiet_nil ?_
                    refine call_at 35 (some 98) 155 #[.slice x2 pp.length j2, .slice y2 qp.length l2] 2 (by kernel_rfl) (by kernel_rfl) (by kernel_rfl) (by kernel_rfl) (by kernel_rfl) ?_
                    refine (s2 _ (u2.below hW) (t2.below hW)).mono ?_
                    rintro e w9 ⟨rfl, hb9⟩
                    replace hW := hW.trans (hb9.mono hW.size)
                    clear hb9
                    refine ⟨_, rfl, ⟨⟨_, hW⟩, rfl⟩, ?_⟩
                    simp only [Act.put, List.setIfInBounds_toArray, List.set_cons_zero, List.set_cons_succ]
                    refine seg_range [(36, 2)] 0 (by kernel_rfl) (by kernel_rfl) (by kernel_rfl) (by kernel_rfl) (by kernel_rfl) ⟨⟨_, hW⟩, rfl⟩ ?_
                    simp only [pickR, List.toList_toArray, List.flatMap_cons, List.flatMap_nil, List.drop_succ_cons, List.drop_zero, List.take_succ_cons, List.take_zero, List.cons_append, List.nil_append, List.append_nil]
                    repeat go_big_quiet_step (fail)
                    refine wpQuiet_nil ?_
                    refine text_end (by kernel_rfl) ?_
                    replace hB := hB.trans (hW.mono hB.size)
                    clear c2 d2 v0 v1 z0 z1 hW hnn s1 s2 HY HN HR
                    go_wp2
                    go_roundw
                    case rel => exact ⟨k + 1, by omega, by go_num, HR'.out, hB⟩
                    case measure => simp [intOf]; omega
              · have E1 : Hid (E = true) := by rw [HE2.out]; exact kpRs_all (fun j hj => HA.out j (by simp at hj; omega))
                have hlti : ¬ (k : Int) < (rs.length : Int) := by omega
                clear HA HE2 HS0
                go_wp2
                go_ret
                exact ⟨by rw [E1.out]; rfl, hB⟩

end Go.Proofs.YtmgkjcobdmdjmaaGreatDoor
namespace Go.Proofs.YtmgkjcobdmdjmaaGreatDoor
open Go.RowKit
open Go.BigFrame
set_option linter.unusedVariables false
set_option maxRecDepth 100000
set_option linter.unusedSimpArgs false
theorem nodup_set {P : Type} {K : Kind P} {v : Value} {ps : List P} (h : (K.fp v ps).Nodup) (i : Nat) (hi : i < ps.length) (p : P) (hp : (K.foot p).Nodup) (hd : ∀ k ∈ K.foot p, k ∉ K.fp v ps) : (K.fp v (ps.set i p)).Nodup := by
  have e : ps = ps.take i ++ ps[i] :: ps.drop (i + 1) := by
    conv => lhs; rw [← List.take_append_drop i ps, List.drop_eq_getElem_cons hi]
  have hA : K.fp v ps = blk v ++ ((ps.take i).flatMap K.foot ++ (K.foot ps[i] ++ (ps.drop (i + 1)).flatMap K.foot)) := by
    conv => lhs; rw [e]
    simp only [Kind.fp, List.flatMap_append, List.flatMap_cons]
  rw [hA] at h hd
  simp only [Kind.fp]
  rw [set_split ps i hi p]
  simp only [List.flatMap_append, List.flatMap_cons]
  generalize blk v = A at *
  generalize (ps.take i).flatMap K.foot = B at *
  generalize (ps.drop (i + 1)).flatMap K.foot = C at *
  generalize K.foot p = D at *
  generalize K.foot ps[i] = E at *
  simp only [List.nodup_append, List.mem_append] at h hd ⊢
  obtain ⟨hA1, ⟨hB1, ⟨hE1, hC1, hEC⟩, hBC⟩, hABC⟩ := h
  refine ⟨hA1, ⟨hB1, ⟨hp, hC1, ?_⟩, ?_⟩, ?_⟩
  · rintro a ha b hb rfl
    exact hd a ha (Or.inr (Or.inr (Or.inr hb)))
  · rintro a ha b (hb | hb) rfl
    · exact hd a hb (Or.inr (Or.inl ha))
    · exact hBC a ha a (Or.inr hb) rfl
  · rintro a ha b (hb | hb | hb) rfl
    · exact hABC a ha a (Or.inl hb) rfl
    · exact hd a hb (Or.inl ha)
    · exact hABC a ha a (Or.inr (Or.inr hb)) rfl

set_option maxHeartbeats 8000000 in
theorem specChangeLast_any (v : Value) (ps : List InstQ) (p : InstQ) (w : World) (h : instK.At w v ps) (hp : instK.rd w p) (hl : (ps.length + nmL InstQ.n ps) ≤ 1048576) (hlp : p.n ≤ 1048576) :
    Calls Tryz.prog 29 #[v, .agg #[.bool p.has, p.vb, p.vr, p.vd]] w fun e w' => ∃ (v' : Value) (qs : List InstQ), e = .returned (.agg #[.int .i64 (clC (ps.map InstQ.e) p.e), v']) ∧ qs.map InstQ.e = clO (ps.map InstQ.e) p.e ∧ instK.Own w' v' qs ∧ (instK.fp v' qs).Nodup ∧ (∀ k ∈ instK.fp v' qs, w.heap.size ≤ k) ∧ Below w.heap.size w w' := by
  have hof := fun w h => l7Fault_any v ps w h hl
  have hif := fun b o w h => l6Fault_any b o p w h hlp
  have HO : Hid (ordF (ps.map InstQ.e) = 0 → 1 ≤ ps.length ∧ ps.length ≤ 4 ∧ ∀ q ∈ ps, insF (InstQ.e q) = 0) := fun h0 => by
    have := ((ord_iff _).1 h0).1
    rw [List.length_map] at this
    exact ⟨this.1, this.2, fun q hq => ord_mem h0 _ (List.mem_map.2 ⟨q, hq, rfl⟩)⟩
  have hco0 := fun w h hlow => l7Copy_any v ps w h hlow hl
  obtain ⟨a, cap, rfl⟩ := h.shape
  have hw := cl_ways (ps.map InstQ.e) (InstQ.e p)
  have HLA : Hid (∀ hlt : ps.length - 1 < ps.length, lastE (ps.map InstQ.e) = InstQ.e ps[ps.length - 1]) := fun hlt => last_at ps hlt
  generalize clC (ps.map InstQ.e) (InstQ.e p) = D at *
  generalize clO (ps.map InstQ.e) (InstQ.e p) = O at *
  have HEP : Hid (∀ q1 : List InstQ, ∀ q : InstQ, q1.map InstQ.e = ps.map InstQ.e → q.e = InstQ.e p → 1 ≤ ps.length → (q1.set (ps.length - 1) q).map InstQ.e = (ps.map InstQ.e).take ((ps.map InstQ.e).length - 1) ++ [InstQ.e p]) := fun q1 q h1 h2 h3 => by
    rw [List.map_set, h1, h2, List.length_map, List.set_eq_take_append_cons_drop, if_pos (by rw [List.length_map]; omega), List.drop_of_length_le (by rw [List.length_map]; omega)]
  have HLE : Hid (∀ q1 : List InstQ, q1.map InstQ.e = ps.map InstQ.e → q1.length = ps.length) := fun q1 h1 => by simpa using congrArg List.length h1
  have HPI : Hid (insF (InstQ.e p) = 0 → ((∀ r ∈ p.rounds, r.rep.length = 3 ∧ r.pro.length = 3) ∧ p.dec.length = 3) ∧ (∀ t ∈ p.batch, 0 < t.acts.length) ∧ (∀ r ∈ p.rounds, 0 < r.rep.length ∧ 0 < r.pro.length) ∧ 0 < p.dec.length) := fun h0 => ⟨rows3 h0, ins_low h0⟩
  have hgr0 := fun b o b' o' (l : InstQ) w h h' hl h1 h2 h3 h4 => l7Grown_any b o b' o' l p w h h' hl hlp h1 h2 h3 h4
  have hci0 := fun w h h1 h2 h3 => l6Copy_any p w h hlp h1 h2 h3
  have hrb := fun (w' : World) hb => instK.rd_below (w' := w') hp hb
  have HIP : Hid (∀ w' b o, Box4 w' b o (.bool p.has) p.vb p.vr p.vd → Below w.heap.size w w' → InstP w' b o p) := fun w' b o hx hb => ⟨hx, instK.rd_below hp hb⟩
  generalize ordF (ps.map InstQ.e) = C at *
  generalize insF (InstQ.e p) = PF at *
  generalize hpe : InstQ.e p = pe at *
  obtain ⟨has, vb, batch, vr, rounds, vd, dec⟩ := p
  obtain ⟨ba, bk, rfl⟩ : ∃ a c, vb = .slice a batch.length c := hp.1.shape
  obtain ⟨va, vk, rfl⟩ : ∃ a c, vr = .slice a rounds.length c := hp.2.1.shape
  obtain ⟨da, dk, rfl⟩ : ∃ a c, vd = .slice a dec.length c := hp.2.2.shape
  dsimp only at hci0 hrb HPI HIP
  have hB : Below w.heap.size w ((w.alloc (.cells #[.bool has, .slice ba batch.length bk, .slice va rounds.length vk, .slice da dec.length dk] 28)).alloc (.cells #[.int .i64 0, .slice none 0 0] 53)) := by go_grown
  have Bk := (Blk.new w 28 #[.bool has, .slice ba batch.length bk, .slice va rounds.length vk, .slice da dec.length dk]).below (w' := ((w.alloc (.cells #[.bool has, .slice ba batch.length bk, .slice va rounds.length vk, .slice da dec.length dk] 28)).alloc (.cells #[.int .i64 0, .slice none 0 0] 53))) (by go_grown)
  have Rb := Blk.new (w.alloc (.cells #[.bool has, .slice ba batch.length bk, .slice va rounds.length vk, .slice da dec.length dk] 28)) 53 #[.int .i64 0, .slice none 0 0]
  rw [World.size_alloc] at Rb
  go_enter Tryz.func29, Tryz.ntmps29
  go_wp2_with fail
  generalize ((w.alloc (.cells #[.bool has, .slice ba batch.length bk, .slice va rounds.length vk, .slice da dec.length dk] 28)).alloc (.cells #[.int .i64 0, .slice none 0 0] 53)) = W at *
  refine (hof W (h.below hB)).mono ?_
  rintro e w1 ⟨rfl, hb⟩
  replace hB := hB.trans (hb.mono hB.size)
  replace Rb := Rb.below hb
  replace Bk := Bk.below hb
  clear hb hof
  by_cases hC : C = 0
  case neg =>
    have hC' : (C != 0) = true := by simpa using hC
    have E1 : Hid (D = C ∧ O = []) := by
      rcases hw with ⟨_, e1, e2⟩ | ⟨h1, _⟩ | ⟨h1, _⟩ | ⟨h1, _⟩
      · exact ⟨e1, e2⟩
      · exact absurd h1 hC
      · exact absurd h1 hC
      · exact absurd h1 hC
    clear hw HO HEP HLE HPI hC
    have q0 := Rb.cell 0 _ rfl
    have q1 := Rb.cell 1 _ rfl
    have f0 := Rb.frozen 0
    have f1 := Rb.frozen 1
    obtain ⟨hn1, hn2⟩ := Kind.own_nil (K := instK) w
    clear hn1
    go_wp2
    exact bodyPost_ret (v := .agg #[.int .i64 C, .slice none 0 0]) (by simp [results, Tryz.results29, go_sem, q0, q1]) rfl ⟨.slice none 0 0, [], by rw [E1.out.1], by rw [E1.out.2]; rfl, (Kind.own_nil _).1, by rw [hn2]; simp, by rw [hn2]; simp, (hB.setCell (p := ⟨w.heap.size + 1, 0, none⟩) (by show w.heap.size ≤ w.heap.size + 1; omega) _).setCell (p := ⟨w.heap.size + 1, 1, none⟩) (by show w.heap.size ≤ w.heap.size + 1; omega) _⟩
  case pos =>
  obtain ⟨p1, p4, hin⟩ := HO.out hC
  subst hC
  have hP1 := HIP.out w1 w.heap.size 0 ⟨Bk.cell 0 _ rfl, Bk.cell 1 _ rfl, Bk.cell 2 _ rfl, Bk.cell 3 _ rfl⟩ hB
  clear HO
  go_wp2_with fail
  refine (hif w.heap.size 0 w1 hP1).mono ?_
  rintro e X ⟨rfl, hb⟩
  replace hB := hB.trans (hb.mono hB.size)
  replace Rb := Rb.below hb
  replace Bk := Bk.below hb
  clear hb hif hP1
  by_cases hP : PF = 0
  case neg =>
    have hP' : (PF != 0) = true := by simpa using hP
    have E1 : Hid (D = PF ∧ O = []) := by
      rcases hw with ⟨h0, _⟩ | ⟨_, _, e1, e2⟩ | ⟨_, h1, _⟩ | ⟨_, h1, _⟩
      · exact absurd rfl h0
      · exact ⟨e1, e2⟩
      · exact absurd h1 hP
      · exact absurd h1 hP
    clear hw HEP HLE HPI hP
    have q0 := Rb.cell 0 _ rfl
    have q1 := Rb.cell 1 _ rfl
    have f0 := Rb.frozen 0
    have f1 := Rb.frozen 1
    obtain ⟨hn1, hn2⟩ := Kind.own_nil (K := instK) w
    clear hn1
    go_wp2
    exact bodyPost_ret (v := .agg #[.int .i64 PF, .slice none 0 0]) (by simp [results, Tryz.results29, go_sem, q0, q1]) rfl ⟨.slice none 0 0, [], by rw [E1.out.1], by rw [E1.out.2]; rfl, (Kind.own_nil _).1, by rw [hn2]; simp, by rw [hn2]; simp, (hB.setCell (p := ⟨w.heap.size + 1, 0, none⟩) (by show w.heap.size ≤ w.heap.size + 1; omega) _).setCell (p := ⟨w.heap.size + 1, 1, none⟩) (by show w.heap.size ≤ w.heap.size + 1; omega) _⟩
  case pos =>
  obtain ⟨⟨hr3, hd3⟩, hlow1, hlow2, hlow3⟩ := HPI.out hP
  have hlt : ps.length - 1 < ps.length := by omega
  have hq0 := hin _ (List.getElem_mem hlt)
  obtain ⟨hr3', hd3'⟩ := rows3 hq0
  have HLB : Hid (lastE (ps.map InstQ.e) = InstQ.e ps[ps.length - 1]) := HLA.out hlt
  have hnl : InstQ.n ps[ps.length - 1] ≤ 1048576 := by have := nmI_le ps _ hlt; omega
  obtain ⟨b, off, rfl, hbs, hPL⟩ := instP_at (h.below hB) (ps.length - 1) hlt
  have hgr1 := hgr0 b (off + (ps.length - 1) * 4) w.heap.size 0 ps[ps.length - 1] X hPL
  have hgr := hgr1 (HIP.out X w.heap.size 0 ⟨Bk.cell 0 _ rfl, Bk.cell 1 _ rfl, Bk.cell 2 _ rfl, Bk.cell 3 _ rfl⟩ hB) hnl hr3' hr3 hd3' hd3
  rw [HLB.out] at hw
  subst hP
  have hlowm : (∀ p ∈ ps, (∀ t ∈ p.batch, 0 < t.acts.length) ∧ (∀ r ∈ p.rounds, 0 < r.rep.length ∧ 0 < r.pro.length) ∧ 0 < p.dec.length) := fun q hq => ins_low (hin q hq)
  have hco := fun w h => hco0 w h hlowm
  have hci := fun w h => hci0 w h hlow1 hlow2 hlow3
  have HEP1 : Hid (∀ q1 : List InstQ, ∀ q : InstQ, q1.map InstQ.e = ps.map InstQ.e → q.e = pe → (q1.set (ps.length - 1) q).map InstQ.e = (ps.map InstQ.e).take ((ps.map InstQ.e).length - 1) ++ [pe]) := fun q1 q h1 h2 => HEP.out q1 q h1 h2 p1
  clear hgr0 hgr1 hci0 hco0 HLA HLB hlow1 hlow2 hlow3 hlowm hr3 hd3 hr3' hd3' hq0 HPI hin hnl hPL HEP HIP
  generalize grw (InstQ.e ps[ps.length - 1]) pe = G at *
  replace hw : (G = false ∧ D = 8 ∧ O = []) ∨ (G = true ∧ D = 0 ∧ O = (ps.map InstQ.e).take ((ps.map InstQ.e).length - 1) ++ [pe]) := by
    rcases hw with ⟨h0, _⟩ | ⟨_, h1, _⟩ | ⟨_, _, h1, e1, e2⟩ | ⟨_, _, h1, e1, e2⟩
    · exact absurd rfl h0
    · exact absurd rfl h1
    · exact Or.inl ⟨h1, e1, e2⟩
    · exact Or.inr ⟨h1, e1, e2⟩
  generalize hm : ps.length - 1 = m at *
  have hpl2 : ps.length = m + 1 := by omega
  have hmi : (m : Int) < ((m + 1 : Nat) : Int) := by omega
  have HPL : Hid (ps.length = m + 1) := hpl2
  rw [hpl2] at h hco ⊢
  have hm4 : (m : Int) ≤ 3 := by omega
  have hm00 : (0 : Int) ≤ (m : Int) := by omega
  clear hm hpl2 hlt
  go_wp2_with fail
  refine hgr.mono ?_
  rintro e X2 ⟨rfl, hb⟩
  replace hB := hB.trans (hb.mono hB.size)
  replace Rb := Rb.below hb
  replace Bk := Bk.below hb
  clear hb hgr
  rcases hw with ⟨hg, e1, e2⟩ | ⟨hg, e1, e2⟩
  · have E1 : Hid (D = 8 ∧ O = []) := ⟨e1, e2⟩
    subst hg
    clear e1 e2 HEP1 HLE
    have q0 := Rb.cell 0 _ rfl
    have q1 := Rb.cell 1 _ rfl
    have f0 := Rb.frozen 0
    have f1 := Rb.frozen 1
    obtain ⟨hn1, hn2⟩ := Kind.own_nil (K := instK) w
    clear hn1
    go_wp2
    exact bodyPost_ret (v := .agg #[.int .i64 8, .slice none 0 0]) (by simp [results, Tryz.results29, go_sem, q0, q1]) rfl ⟨.slice none 0 0, [], by rw [E1.out.1], by rw [E1.out.2]; rfl, (Kind.own_nil _).1, by rw [hn2]; simp, by rw [hn2]; simp, (hB.setCell (p := ⟨w.heap.size + 1, 0, none⟩) (by show w.heap.size ≤ w.heap.size + 1; omega) _).setCell (p := ⟨w.heap.size + 1, 1, none⟩) (by show w.heap.size ≤ w.heap.size + 1; omega) _⟩
  · have HC0 : Hid (D = 0) := e1
    subst hg
    clear e1
    go_wp2_with fail
    refine (hco X2 (h.below hB)).mono ?_
    rintro e Y ⟨vq, qs, rfl, eqs, hO, hn0, hlo0, hbY⟩
    obtain ⟨sa, sc, rfl⟩ := hO.shape
    have hqn : qs.length = m + 1 := by have h1 := HLE.out qs eqs; have h2 := HPL.out; omega
    obtain ⟨g, rfl⟩ := hO.blkOf (by omega)
    have hX2 := Rb.lt
    have hltq : m < qs.length := by omega
    have HN : Hid ((instK.fp (.slice (some ⟨g, 0, none⟩) qs.length sc) qs).Nodup ∧ ∀ k ∈ instK.fp (.slice (some ⟨g, 0, none⟩) qs.length sc) qs, X2.heap.size ≤ k) := ⟨hn0, hlo0⟩
    have HLT : Hid (∀ x ∈ instK.fp (.slice (some ⟨g, 0, none⟩) qs.length sc) qs, x < Y.heap.size) := hO.lt
    replace hB := hB.trans (hbY.mono hB.size)
    replace Rb := Rb.below hbY
    replace Bk := Bk.below hbY
    have rP := hrb Y hB
    have c0 := Bk.cell 0 _ rfl
    have c1 := Bk.cell 1 _ rfl
    have c2 := Bk.cell 2 _ rfl
    have c3 := Bk.cell 3 _ rfl
    clear hn0 hlo0 hco hbY
    go_wp2_with fail
    clear c0 c1 c2 c3
    refine (hci Y rP).mono ?_
    rintro e Y2 ⟨q, rfl, eq, oq, nq, gq, hb2⟩
    have HQ5 : Hid ((qs.set m q).map InstQ.e = O) := (HEP1.out qs q eqs eq).trans e2.symm
    have hO2 := hO.below hb2
    replace hB := hB.trans (hb2.mono hB.size)
    replace Rb := Rb.below hb2
    clear hb2 eqs eq e2 hci HEP1 HLE hO rP Bk
    have hdis : ∀ k ∈ instK.foot q, k ∉ instK.fp (.slice (some ⟨g, 0, none⟩) qs.length sc) qs := fun k hk hk' => by have := gq k hk; have := HLT.out k hk'; omega
    have hg0 : g ∈ instK.fp (.slice (some ⟨g, 0, none⟩) qs.length sc) qs := by simp [Kind.fp, blk, Value.ownBlock]
    have hgl := HN.out.2 g hg0
    have HNS : Hid ((instK.fp (.slice (some ⟨g, 0, none⟩) qs.length sc) (qs.set m q)).Nodup ∧ ∀ k ∈ instK.fp (.slice (some ⟨g, 0, none⟩) qs.length sc) (qs.set m q), X2.heap.size ≤ k) := by
      refine ⟨nodup_set HN.out.1 m hltq q nq hdis, fun k hk => ?_⟩
      simp only [Kind.fp, List.mem_append] at hk
      rcases hk with hk | hk
      · exact HN.out.2 k (by simp only [Kind.fp, List.mem_append]; exact Or.inl hk)
      · rcases mem_foot_set hltq hk with hk | hk
        · exact HN.out.2 k (by simp only [Kind.fp, List.mem_append]; exact Or.inr hk)
        · have := gq k hk; have := HLT.out g hg0; omega
    have hgq : ∀ q' ∈ qs, ∀ k ∈ instK.foot q', k ≠ g := fun q' hq' k hk e => by
      have h1 := HN.out.1
      simp only [Kind.fp, blk, Value.ownBlock, Option.toList, List.cons_append, List.nil_append, List.nodup_cons] at h1
      exact h1.1 (List.mem_flatMap.2 ⟨q', hq', e ▸ hk⟩)
    have hgp : ∀ k ∈ instK.foot q, k ≠ g := fun k hk e => hdis k hk (e ▸ hg0)
    obtain ⟨qh, qvb, qb, qvr, qr, qvd, qd⟩ := q
    obtain ⟨x1, y1, rfl⟩ : ∃ a c, qvb = .slice a qb.length c := oq.1.shape
    obtain ⟨x2, y2, rfl⟩ : ∃ a c, qvr = .slice a qr.length c := oq.2.1.shape
    obtain ⟨x3, y3, rfl⟩ : ∃ a c, qvd = .slice a qd.length c := oq.2.2.shape
    obtain ⟨d0, f0⟩ := hO2.cell m hltq 0 (.bool qs[m].has) rfl
    obtain ⟨d1, f1⟩ := hO2.cell m hltq 1 qs[m].vb rfl
    obtain ⟨d2, f2⟩ := hO2.cell m hltq 2 qs[m].vr rfl
    obtain ⟨d3, f3⟩ := hO2.cell m hltq 3 qs[m].vd rfl
    have hkk : ∀ j, m * instK.size + j = m * 4 + j := fun j => rfl
    rw [hkk] at d0 f0 d1 f1 d2 f2 d3 f3
    rw [Nat.add_zero] at d0 f0
    have hrow := own_setFrom hO2.1 (m * 4) [.bool qh, .slice x1 qb.length y1, .slice x2 qr.length y2, .slice x3 qd.length y3]
    have hput := hO2.put (w' := ((((Y2.setCell ⟨g, m * 4, none⟩ (.bool qh)).setCell ⟨g, m * 4 + 1, none⟩ (.slice x1 qb.length y1)).setCell ⟨g, m * 4 + 2, none⟩ (.slice x2 qr.length y2)).setCell ⟨g, m * 4 + 3, none⟩ (.slice x3 qd.length y3))) m hltq (⟨qh, .slice x1 qb.length y1, qb, .slice x2 qr.length y2, qr, .slice x3 qd.length y3, qd⟩ : InstQ) (by simp [List.zipIdx_cons] at hrow; exact hrow) (((Out.setCell _ _ _ _).trans (Out.setCell _ _ _ _)).trans (Out.setCell _ _ _ _) |>.trans (Out.setCell _ _ _ _)) hgq oq hgp
    have hBp : Below w.heap.size w ((((Y2.setCell ⟨g, m * 4, none⟩ (.bool qh)).setCell ⟨g, m * 4 + 1, none⟩ (.slice x1 qb.length y1)).setCell ⟨g, m * 4 + 2, none⟩ (.slice x2 qr.length y2)).setCell ⟨g, m * 4 + 3, none⟩ (.slice x3 qd.length y3)) := (((hB.setCell (p := ⟨g, m * 4, none⟩) (by show w.heap.size ≤ g; omega) _).setCell (p := ⟨g, m * 4 + 1, none⟩) (by show w.heap.size ≤ g; omega) _).setCell (p := ⟨g, m * 4 + 2, none⟩) (by show w.heap.size ≤ g; omega) _).setCell (p := ⟨g, m * 4 + 3, none⟩) (by show w.heap.size ≤ g; omega) _
    have Rp : Blk ((((Y2.setCell ⟨g, m * 4, none⟩ (.bool qh)).setCell ⟨g, m * 4 + 1, none⟩ (.slice x1 qb.length y1)).setCell ⟨g, m * 4 + 2, none⟩ (.slice x2 qr.length y2)).setCell ⟨g, m * 4 + 3, none⟩ (.slice x3 qd.length y3)) (w.heap.size + 1) 53 #[.int .i64 0, .slice none 0 0] := (((Rb.other (b' := g) (by omega) _ _).other (b' := g) (by omega) _ _).other (b' := g) (by omega) _ _).other (b' := g) (by omega) _ _
    have r0 := Rp.cell 0 _ rfl
    have r1 := Rp.cell 1 _ rfl
    have g0 := Rp.frozen 0
    have g1 := Rp.frozen 1
    rw [← hqn]
    have hlti : (m : Int) < (qs.length : Int) := by omega
    have HFIN : Hid (∀ u u', instK.Own ((((((Y2.setCell ⟨g, m * 4, none⟩ (.bool qh)).setCell ⟨g, m * 4 + 1, none⟩ (.slice x1 qb.length y1)).setCell ⟨g, m * 4 + 2, none⟩ (.slice x2 qr.length y2)).setCell ⟨g, m * 4 + 3, none⟩ (.slice x3 qd.length y3)).setCell ⟨w.heap.size + 1, 0, none⟩ u).setCell ⟨w.heap.size + 1, 1, none⟩ u') (.slice (some ⟨g, 0, none⟩) qs.length sc) (qs.set m (⟨qh, .slice x1 qb.length y1, qb, .slice x2 qr.length y2, qr, .slice x3 qd.length y3, qd⟩ : InstQ)) ∧ Below w.heap.size w ((((((Y2.setCell ⟨g, m * 4, none⟩ (.bool qh)).setCell ⟨g, m * 4 + 1, none⟩ (.slice x1 qb.length y1)).setCell ⟨g, m * 4 + 2, none⟩ (.slice x2 qr.length y2)).setCell ⟨g, m * 4 + 3, none⟩ (.slice x3 qd.length y3)).setCell ⟨w.heap.size + 1, 0, none⟩ u).setCell ⟨w.heap.size + 1, 1, none⟩ u')) := fun u u' => by
      refine ⟨hput.out (((Out.refl [w.heap.size + 1] _).set (b := w.heap.size + 1) (j := 0) (u := u) (by simp)).set (b := w.heap.size + 1) (j := 1) (u := u') (by simp)) (fun k hk => by have := HNS.out.2 k hk; simp only [List.mem_singleton]; omega), ?_⟩
      exact (hBp.setCell (p := ⟨w.heap.size + 1, 0, none⟩) (by show w.heap.size ≤ w.heap.size + 1; omega) _).setCell (p := ⟨w.heap.size + 1, 1, none⟩) (by show w.heap.size ≤ w.heap.size + 1; omega) _
    have HL5 : Hid ((instK.fp (.slice (some ⟨g, 0, none⟩) qs.length sc) (qs.set m (⟨qh, .slice x1 qb.length y1, qb, .slice x2 qr.length y2, qr, .slice x3 qd.length y3, qd⟩ : InstQ))).Nodup ∧ ∀ k ∈ instK.fp (.slice (some ⟨g, 0, none⟩) qs.length sc) (qs.set m (⟨qh, .slice x1 qb.length y1, qb, .slice x2 qr.length y2, qr, .slice x3 qd.length y3, qd⟩ : InstQ)), w.heap.size ≤ k) := ⟨HNS.out.1, fun k hk => by have := HNS.out.2 k hk; omega⟩
    clear hrow hO2 HN HLT hgq hgp hdis nq gq oq hB Rb hput hBp Rp HNS
    go_wp2
    exact bodyPost_ret (v := .agg #[.int .i64 0, .slice (some ⟨g, 0, none⟩) qs.length sc]) (by simp [results, Tryz.results29, go_sem, r0, r1, hqn]) rfl ⟨.slice (some ⟨g, 0, none⟩) qs.length sc, qs.set m (⟨qh, .slice x1 qb.length y1, qb, .slice x2 qr.length y2, qr, .slice x3 qd.length y3, qd⟩ : InstQ), by rw [HC0.out], HQ5.out, (HFIN.out _ _).1, HL5.out.1, HL5.out.2, (HFIN.out _ _).2⟩

theorem clO_n {ps : List InstQ} {p : InstQ} {qs : List InstQ} (h : qs.map InstQ.e = clO (ps.map InstQ.e) (InstQ.e p)) : qs.length + nmL InstQ.n qs ≤ 1048576 := by
  rcases cl_ways (ps.map InstQ.e) (InstQ.e p) with ⟨_, _, e2⟩ | ⟨_, _, _, e2⟩ | ⟨_, _, _, _, e2⟩ | ⟨h0, h1, _, _, e2⟩
  · rw [e2] at h
    have : qs = [] := by simpa using h
    subst this
    simp [nmL]
  · rw [e2] at h
    have : qs = [] := by simpa using h
    subst this
    simp [nmL]
  · rw [e2] at h
    have : qs = [] := by simpa using h
    subst this
    simp [nmL]
  · rw [e2] at h
    have hl := congrArg List.length h
    have hl2 := ((ord_iff _).1 h0).1
    rw [List.length_map] at hl2
    simp only [List.length_map, List.length_append, List.length_singleton, List.length_take] at hl
    have := insts_small (qs := qs) (fun q hq => by
      have hm : InstQ.e q ∈ (ps.map InstQ.e).take ((ps.map InstQ.e).length - 1) ++ [InstQ.e p] := by rw [← h]; exact List.mem_map.2 ⟨q, hq, rfl⟩
      rcases List.mem_append.1 hm with hm | hm
      · exact ord_mem h0 _ (List.mem_of_mem_take hm)
      · simp only [List.mem_singleton] at hm
        rw [hm]; exact h1)
    have h5 : qs.length ≤ 5 := by omega
    have h6 : qs.length * 61 ≤ 5 * 61 := Nat.mul_le_mul_right _ h5
    omega

end Go.Proofs.YtmgkjcobdmdjmaaGreatDoor

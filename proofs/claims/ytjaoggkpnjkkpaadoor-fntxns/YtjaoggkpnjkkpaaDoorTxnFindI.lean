/- FindTxn of the program and of its model, walked. No condition. -/
import Derived.Test.YtjaoggkpnjkkpaaDoorTxnFind
namespace Go.Proofs.YtjaoggkpnjkkpaaDoor
open Go.RowKit
open Go.BigFrame
set_option linter.unusedVariables false
set_option linter.unusedSimpArgs false

theorem find_bad {ds : List TxnD} {x : Int} (h : idsC ds ≠ 0) : findC ds x = idsC ds ∧ findT ds x = txnNo := by
  have e : findC ds x = idsC ds := if_pos h
  exact ⟨e, if_neg (by rw [e]; exact h)⟩
theorem find_none {ds : List TxnD} {x : Int} (h : idsC ds = 0) (hk : ¬ idxN (ds.map TxnD.id) x < ds.length) : findC ds x = 4 ∧ findT ds x = txnNo := by
  have e : findC ds x = 4 := by simp [findC, h, hk]
  exact ⟨e, if_neg (by rw [e]; decide)⟩
theorem find_some {ds : List TxnD} {x : Int} (h : idsC ds = 0) (hk : idxN (ds.map TxnD.id) x < ds.length) : findC ds x = 0 ∧ findT ds x = ds.getD (idxN (ds.map TxnD.id) x) txnNo := by
  have e : findC ds x = 0 := by simp [findC, h, hk]
  exact ⟨e, if_pos e⟩
theorem allF_zero {ds : List TxnD} (h : allF ds = 0) : ∀ d ∈ ds, d.F = 0 := by
  induction ds with
  | nil => simp
  | cons y r ih =>
    simp only [allF] at h
    split at h
    · rename_i hy
      intro d hd
      rcases List.mem_cons.1 hd with rfl | hd
      · exact hy
      · exact ih h d hd
    · rename_i hy; exact absurd h hy
theorem ids_ok {ds : List TxnD} (h : idsC ds = 0) (k : Nat) (hk : k < ds.length) : 0 < (ds.getD k txnNo).acts.length := by
  have h6 := idsC_few h
  have ha : allF ds = 0 := by
    have e : idsC ds = allF ds := if_neg (by omega)
    rw [← e]; exact h
  have := allF_zero ha (ds.getD k txnNo) (by simp [List.getD, hk])
  have := (txnF_zero this).2.2.2.1
  omega

set_option maxRecDepth 100000 in
set_option maxHeartbeats 2000000 in
theorem specFindTxn_any (v : Value) (ds : List TxnD) (x : Int) (w : World) (h : TxnsAt w v ds) (hl : ds.length + sumA ds ≤ 1048576) :
    Calls Tryd.prog 14 #[v, .int .i64 x] w fun e w' => ∃ b c, e = .returned (.agg #[.int .i64 (findC ds x), .int .i64 (findT ds x).id, .int .i64 (findT ds x).session, .int .i64 (findT ds x).seq, .slice b (findT ds x).acts.length c]) ∧
      w'.ownsRow w.heap.size 54 3 (.slice b (findT ds x).acts.length c) (findT ds x).acts.length (actCells (findT ds x).acts) ∧ Below w.heap.size w w' := by
  obtain ⟨a, cap, rfl⟩ := h.shape
  have B0 := Blk.new w 29 #[.int .i64 0, .int .i64 0, .int .i64 0, .int .i64 0, .slice none 0 0]
  have hb0 : Below w.heap.size w (w.alloc (.cells #[.int .i64 0, .int .i64 0, .int .i64 0, .int .i64 0, .slice none 0 0] 29)) := by go_grown
  have hf := fun w h => l2All_any (.slice a ds.length cap) ds w h hl
  by_cases hC : idsC ds = 0
  case neg =>
    obtain ⟨e1, e2⟩ := find_bad (x := x) hC
    have hne : (idsC ds != 0) = true := by simpa using hC
    have E : Hid (findC ds x = idsC ds) := e1
    have E2 : Hid (findT ds x = txnNo) := e2
    clear e1 e2 hC
    generalize idsC ds = r at hf hne E
    go_enter Tryd.func14, Tryd.ntmps14
    go_wp2_with fail
    generalize w.alloc (.cells #[.int .i64 0, .int .i64 0, .int .i64 0, .int .i64 0, .slice none 0 0] 29) = W at B0 hb0
    refine (hf _ (h.below hb0)).mono ?_
    rintro e w' ⟨rfl, rfl⟩
    have hlt0 := B0.lt
    have q0 := B0.cell 0 _ rfl
    have f0 := B0.frozen 0
    have q1 := B0.cell 1 _ rfl
    have f1 := B0.frozen 1
    have q2 := B0.cell 2 _ rfl
    have f2 := B0.frozen 2
    have q3 := B0.cell 3 _ rfl
    have f3 := B0.frozen 3
    have q4 := B0.cell 4 _ rfl
    have f4 := B0.frozen 4
    clear B0
    go_wp2
    refine bodyPost_ret (v := .agg #[.int .i64 r, .int .i64 0, .int .i64 0, .int .i64 0, .slice none 0 0]) (by simp [results, Tryd.results14, go_sem, q0, q1, q2, q3, q4]) rfl ?_
    rw [E.out, E2.out]
    refine ⟨_, _, rfl, World.ownsRow_nil _ _ _ _, ?_⟩
    repeat' (refine Below.setCell ?_ (by dsimp only; omega) _)
    exact hb0
  case pos =>
    have hids := fun w h => l2Ids_any (.slice a ds.length cap) ds w h (idsC_few hC)
    have h6 := idsC_few hC
    have hLl : (ds.map TxnD.id).length = ds.length := by simp
    have hfi := fun a c w h => l1Find_any a c (ds.map TxnD.id) x w h (by omega)
    rw [hC] at hf
    by_cases hk : idxN (ds.map TxnD.id) x < ds.length
    case neg =>
      obtain ⟨e1, e2⟩ := find_none (x := x) hC hk
      have E : Hid (findC ds x = 4) := e1
      have E2 : Hid (findT ds x = txnNo) := e2
      rw [show idxI (ds.map TxnD.id) x = -1 from if_neg (by omega)] at hfi
      clear e1 e2 hC hk
      generalize ds.map TxnD.id = L at hids hfi hLl
      clear hLl
      go_enter Tryd.func14, Tryd.ntmps14
      go_wp2_with fail
      generalize w.alloc (.cells #[.int .i64 0, .int .i64 0, .int .i64 0, .int .i64 0, .slice none 0 0] 29) = W at B0 hb0
      refine (hf _ (h.below hb0)).mono ?_
      rintro e w' ⟨rfl, rfl⟩
      go_wp2_with fail
      refine (hids _ (h.below hb0)).mono ?_
      rintro e w2 ⟨b2, c2, rfl, o2, hb⟩
      go_wp2_with fail
      refine (hfi _ _ _ (Row.own o2)).mono ?_
      rintro e w3 ⟨rfl, rfl⟩
      replace B0 := B0.below hb
      have hlt0 := B0.lt
      have q0 := B0.cell 0 _ rfl
      have f0 := B0.frozen 0
      have q1 := B0.cell 1 _ rfl
      have f1 := B0.frozen 1
      have q2 := B0.cell 2 _ rfl
      have f2 := B0.frozen 2
      have q3 := B0.cell 3 _ rfl
      have f3 := B0.frozen 3
      have q4 := B0.cell 4 _ rfl
      have f4 := B0.frozen 4
      clear B0
      go_wp2
      refine bodyPost_ret (v := .agg #[.int .i64 4, .int .i64 0, .int .i64 0, .int .i64 0, .slice none 0 0]) (by simp [results, Tryd.results14, go_sem, q0, q1, q2, q3, q4]) rfl ?_
      rw [E.out, E2.out]
      refine ⟨_, _, rfl, World.ownsRow_nil _ _ _ _, ?_⟩
      repeat' (refine Below.setCell ?_ (by dsimp only; omega) _)
      exact below_from hb0 hb
    case pos =>
      obtain ⟨e1, e2⟩ := find_some (x := x) hC hk
      have E : Hid (findC ds x = 0) := e1
      have E2 : Hid (findT ds x = ds.getD (idxN (ds.map TxnD.id) x) txnNo) := e2
      have hzp := ids_ok hC _ hk
      have hzl : (ds.getD (idxN (ds.map TxnD.id) x) txnNo).acts.length ≤ sumA ds := mem_le_sumA (by simp [List.getD, hk])
      rw [show idxI (ds.map TxnD.id) x = (idxN (ds.map TxnD.id) x : Int) from if_pos (by omega)] at hfi
      clear e1 e2 hC
      generalize idxN (ds.map TxnD.id) x = k at hfi hk hzp hzl E2
      generalize ds.map TxnD.id = L at hids hfi hLl
      clear hLl
      go_enter Tryd.func14, Tryd.ntmps14
      go_wp2_with fail
      generalize w.alloc (.cells #[.int .i64 0, .int .i64 0, .int .i64 0, .int .i64 0, .slice none 0 0] 29) = W at B0 hb0
      refine (hf _ (h.below hb0)).mono ?_
      rintro e w' ⟨rfl, rfl⟩
      go_wp2_with fail
      refine (hids _ (h.below hb0)).mono ?_
      rintro e w2 ⟨b2, c2, rfl, o2, hb⟩
      go_wp2_with fail
      refine (hfi _ _ _ (Row.own o2)).mono ?_
      rintro e w3 ⟨rfl, rfl⟩
      replace B0 := B0.below hb
      replace hb0 := below_from hb0 hb
      clear hb o2 hids hfi hf
      obtain ⟨b, off, aa, cc, rfl, hbs, hc0, hc1, hc2, hc3, hA⟩ := (h.below hb0).at k hk
      obtain ⟨b4, off4, rfl, _⟩ := hA.at 0 hzp
      generalize ds.getD k txnNo = z at hc0 hc1 hc2 hc3 hA hzp hzl E2
      obtain ⟨z0, z1, z2, zs⟩ := z
      dsimp only at hc0 hc1 hc2 hc3 hA hzp hzl
      go_wp2_with fail
      refine (l2Copy_any z0 z1 z2 b4 off4 cc zs _ hA hzp (by omega)).mono ?_
      rintro e w5 ⟨a5, c5, rfl, o5, hb⟩
      have hlt5 := B0.lt
      replace B0 := B0.below hb
      have q0 := B0.cell 0 _ rfl
      have f0 := B0.frozen 0
      have q1 := B0.cell 1 _ rfl
      have f1 := B0.frozen 1
      have q2 := B0.cell 2 _ rfl
      have f2 := B0.frozen 2
      have q3 := B0.cell 3 _ rfl
      have f3 := B0.frozen 3
      have q4 := B0.cell 4 _ rfl
      have f4 := B0.frozen 4
      clear B0 hc0 hc1 hc2 hc3 hA
      go_wp2
      refine bodyPost_ret (v := .agg #[.int .i64 0, .int .i64 z0, .int .i64 z1, .int .i64 z2, .slice a5 zs.length c5]) (by simp [results, Tryd.results14, go_sem, q0, q1, q2, q3, q4]) rfl ?_
      rw [E.out, E2.out]
      refine ⟨_, _, rfl, ?_, ?_⟩
      · refine own_base (base := _) ?_ hb0.size
        repeat' (refine ownsRow_setCell_below ?_ (by dsimp only; omega) _)
        exact o5
      · repeat' (refine Below.setCell ?_ (by dsimp only; omega) _)
        exact below_from hb0 hb

set_option maxRecDepth 100000 in
set_option maxHeartbeats 2000000 in
theorem implFindTxn_any (v : Value) (ds : List TxnD) (x : Int) (w : World) (h : TxnsAt w v ds) (hl : ds.length + sumA ds ≤ 1048576) :
    Calls Tryd.prog 10 #[v, .int .i64 x] w fun e w' => ∃ b c, e = .returned (.agg #[.int .i64 (findC ds x), .int .i64 (findT ds x).id, .int .i64 (findT ds x).session, .int .i64 (findT ds x).seq, .slice b (findT ds x).acts.length c]) ∧
      w'.ownsRow w.heap.size 54 3 (.slice b (findT ds x).acts.length c) (findT ds x).acts.length (actCells (findT ds x).acts) ∧ Below w.heap.size w w' := by
  obtain ⟨a, cap, rfl⟩ := h.shape
  have B0 := Blk.new w 29 #[.int .i64 0, .int .i64 0, .int .i64 0, .int .i64 0, .slice none 0 0]
  have hb0 : Below w.heap.size w (w.alloc (.cells #[.int .i64 0, .int .i64 0, .int .i64 0, .int .i64 0, .slice none 0 0] 29)) := by go_grown
  have hf := fun w h => implIdsOf_any (.slice a ds.length cap) ds w h hl
  by_cases hC : idsC ds = 0
  case neg =>
    obtain ⟨e1, e2⟩ := find_bad (x := x) hC
    have hne : (idsC ds != 0) = true := by simpa using hC
    have E : Hid (findC ds x = idsC ds) := e1
    have E2 : Hid (findT ds x = txnNo) := e2
    clear e1 e2 hC
    generalize idsC ds = r at hf hne E
    generalize idsR ds = L at hf
    go_enter Tryd.func10, Tryd.ntmps10
    go_wp2_with fail
    generalize w.alloc (.cells #[.int .i64 0, .int .i64 0, .int .i64 0, .int .i64 0, .slice none 0 0] 29) = W at B0 hb0
    refine (hf _ (h.below hb0)).mono ?_
    rintro e w2 ⟨b2, c2, rfl, o2, hb⟩
    have hb' : Below w2.heap.size w2 (w2.alloc (.cells #[.int .i64 r, .slice b2 L.length c2] 41)) := by go_grown
    replace B0 := (B0.below hb).below hb'
    have hlt0 := B0.lt
    have q0 := B0.cell 0 _ rfl
    have f0 := B0.frozen 0
    have q1 := B0.cell 1 _ rfl
    have f1 := B0.frozen 1
    have q2 := B0.cell 2 _ rfl
    have f2 := B0.frozen 2
    have q3 := B0.cell 3 _ rfl
    have f3 := B0.frozen 3
    have q4 := B0.cell 4 _ rfl
    have f4 := B0.frozen 4
    clear B0
    go_wp2
    refine bodyPost_ret (v := .agg #[.int .i64 r, .int .i64 0, .int .i64 0, .int .i64 0, .slice none 0 0]) (by simp [results, Tryd.results10, go_sem, q0, q1, q2, q3, q4]) rfl ?_
    rw [E.out, E2.out]
    refine ⟨_, _, rfl, World.ownsRow_nil _ _ _ _, ?_⟩
    repeat' (refine Below.setCell ?_ (by dsimp only; omega) _)
    exact below_from (below_from hb0 hb) hb'
  case pos =>
    have h6 := idsC_few hC
    have hLl : (ds.map TxnD.id).length = ds.length := by simp
    have hfi := fun a c w h => index_any a c (ds.map TxnD.id) x w h (by omega)
    rw [hC, show idsR ds = ds.map TxnD.id from if_pos hC] at hf
    by_cases hk : idxN (ds.map TxnD.id) x < ds.length
    case neg =>
      obtain ⟨e1, e2⟩ := find_none (x := x) hC hk
      have E : Hid (findC ds x = 4) := e1
      have E2 : Hid (findT ds x = txnNo) := e2
      rw [show idxI (ds.map TxnD.id) x = -1 from if_neg (by omega)] at hfi
      clear e1 e2 hC hk
      generalize ds.map TxnD.id = L at hf hfi hLl
      clear hLl
      go_enter Tryd.func10, Tryd.ntmps10
      go_wp2_with fail
      generalize w.alloc (.cells #[.int .i64 0, .int .i64 0, .int .i64 0, .int .i64 0, .slice none 0 0] 29) = W at B0 hb0
      refine (hf _ (h.below hb0)).mono ?_
      rintro e w2 ⟨b2, c2, rfl, o2, hb⟩
      have hb' : Below w2.heap.size w2 (w2.alloc (.cells #[.int .i64 0, .slice b2 L.length c2] 41)) := by go_grown
      replace B0 := (B0.below hb).below hb'
      replace o2 := own_below o2 hb'
      go_wp2_with fail
      generalize w2.alloc (.cells #[.int .i64 0, .slice b2 L.length c2] 41) = w3 at hb' B0 o2
      refine (hfi _ _ _ (Row.own o2)).mono ?_
      rintro e w4 ⟨rfl, rfl⟩
      have hlt0 := B0.lt
      have q0 := B0.cell 0 _ rfl
      have f0 := B0.frozen 0
      have q1 := B0.cell 1 _ rfl
      have f1 := B0.frozen 1
      have q2 := B0.cell 2 _ rfl
      have f2 := B0.frozen 2
      have q3 := B0.cell 3 _ rfl
      have f3 := B0.frozen 3
      have q4 := B0.cell 4 _ rfl
      have f4 := B0.frozen 4
      clear B0
      go_wp2
      refine bodyPost_ret (v := .agg #[.int .i64 4, .int .i64 0, .int .i64 0, .int .i64 0, .slice none 0 0]) (by simp [results, Tryd.results10, go_sem, q0, q1, q2, q3, q4]) rfl ?_
      rw [E.out, E2.out]
      refine ⟨_, _, rfl, World.ownsRow_nil _ _ _ _, ?_⟩
      repeat' (refine Below.setCell ?_ (by dsimp only; omega) _)
      exact below_from (below_from hb0 hb) hb'
    case pos =>
      obtain ⟨e1, e2⟩ := find_some (x := x) hC hk
      have E : Hid (findC ds x = 0) := e1
      have E2 : Hid (findT ds x = ds.getD (idxN (ds.map TxnD.id) x) txnNo) := e2
      have hzp := ids_ok hC _ hk
      have hzl : (ds.getD (idxN (ds.map TxnD.id) x) txnNo).acts.length ≤ sumA ds := mem_le_sumA (by simp [List.getD, hk])
      rw [show idxI (ds.map TxnD.id) x = (idxN (ds.map TxnD.id) x : Int) from if_pos (by omega)] at hfi
      clear e1 e2 hC
      generalize idxN (ds.map TxnD.id) x = k at hfi hk hzp hzl E2
      generalize ds.map TxnD.id = L at hf hfi hLl
      clear hLl
      go_enter Tryd.func10, Tryd.ntmps10
      go_wp2_with fail
      generalize w.alloc (.cells #[.int .i64 0, .int .i64 0, .int .i64 0, .int .i64 0, .slice none 0 0] 29) = W at B0 hb0
      refine (hf _ (h.below hb0)).mono ?_
      rintro e w2 ⟨b2, c2, rfl, o2, hb⟩
      have hb' : Below w2.heap.size w2 (w2.alloc (.cells #[.int .i64 0, .slice b2 L.length c2] 41)) := by go_grown
      replace B0 := (B0.below hb).below hb'
      replace o2 := own_below o2 hb'
      go_wp2_with fail
      generalize w2.alloc (.cells #[.int .i64 0, .slice b2 L.length c2] 41) = w3 at hb' B0 o2
      refine (hfi _ _ _ (Row.own o2)).mono ?_
      rintro e w4 ⟨rfl, rfl⟩
      replace hb0 := below_from (below_from hb0 hb) hb'
      clear hb hb' o2 hfi hf
      obtain ⟨b, off, aa, cc, rfl, hbs, hc0, hc1, hc2, hc3, hA⟩ := (h.below hb0).at k hk
      obtain ⟨b4, off4, rfl, _⟩ := hA.at 0 hzp
      generalize ds.getD k txnNo = z at hc0 hc1 hc2 hc3 hA hzp hzl E2
      obtain ⟨z0, z1, z2, zs⟩ := z
      dsimp only at hc0 hc1 hc2 hc3 hA hzp hzl
      go_wp2_with fail
      refine (cloneTxn_any z0 z1 z2 b4 off4 cc zs _ hA hzp (by omega)).mono ?_
      rintro e w5 ⟨a5, c5, rfl, o5, hb⟩
      have hlt5 := B0.lt
      replace B0 := B0.below hb
      have q0 := B0.cell 0 _ rfl
      have f0 := B0.frozen 0
      have q1 := B0.cell 1 _ rfl
      have f1 := B0.frozen 1
      have q2 := B0.cell 2 _ rfl
      have f2 := B0.frozen 2
      have q3 := B0.cell 3 _ rfl
      have f3 := B0.frozen 3
      have q4 := B0.cell 4 _ rfl
      have f4 := B0.frozen 4
      clear B0 hc0 hc1 hc2 hc3 hA
      go_wp2
      refine bodyPost_ret (v := .agg #[.int .i64 0, .int .i64 z0, .int .i64 z1, .int .i64 z2, .slice a5 zs.length c5]) (by simp [results, Tryd.results10, go_sem, q0, q1, q2, q3, q4]) rfl ?_
      rw [E.out, E2.out]
      refine ⟨_, _, rfl, ?_, ?_⟩
      · refine own_base (base := _) ?_ hb0.size
        repeat' (refine ownsRow_setCell_below ?_ (by dsimp only; omega) _)
        exact o5
      · repeat' (refine Below.setCell ?_ (by dsimp only; omega) _)
        exact below_from hb0 hb

end Go.Proofs.YtjaoggkpnjkkpaaDoor

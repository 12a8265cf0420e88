/- IdsOf of the program and of its model: the same code, the same numbers. No condition. -/
import Derived.Test.YtjaoggkpnjkkpaaDoorTxnIds
namespace Go.Proofs.YtjaoggkpnjkkpaaDoor
open Go.RowKit
open Go.BigFrame
set_option linter.unusedVariables false
set_option linter.unusedSimpArgs false

theorem idsC_few {ds : List TxnD} (h : idsC ds = 0) : ds.length ≤ 60 := by
  unfold idsC at h
  split at h
  · simp at h
  · omega

set_option maxRecDepth 100000 in
set_option maxHeartbeats 1000000 in
theorem specIdsOf_any (v : Value) (ds : List TxnD) (w : World) (h : TxnsAt w v ds) (hl : ds.length + sumA ds ≤ 1048576) :
    Calls Tryd.prog 15 #[v] w fun e w' => ∃ b c, e = .returned (.agg #[.int .i64 (idsC ds), .slice b (idsR ds).length c]) ∧
      w'.ownsRow w.heap.size 2 1 (.slice b (idsR ds).length c) (idsR ds).length ((idsR ds).map (Value.int .i64)) ∧ Below w.heap.size w w' := by
  have hf := fun w h => l2All_any v ds w h hl
  by_cases h0 : idsC ds = 0
  · have hp := fun w h => l2Ids_any v ds w h (idsC_few h0)
    have e2 : idsR ds = ds.map TxnD.id := if_pos h0
    rw [h0, e2]
    rw [h0] at hf
    clear e2 h0
    generalize ds.map TxnD.id = L at hp
    go_enter Tryd.func15, Tryd.ntmps15
    go_wp2_with fail
    refine (hf _ (h.below (by go_grown))).mono ?_
    rintro e w' ⟨rfl, rfl⟩
    go_wp2_with fail
    refine (hp _ (h.below (by go_grown))).mono ?_
    rintro e w2 ⟨b, c, rfl, ho, hb⟩
    obtain ⟨hc, hfz⟩ := bcell hb
    have hz : w.heap.size + 1 ≤ w2.heap.size := by have := hb.size; simp at this; omega
    go_wp2
    obtain ⟨r1, r2⟩ := ret_box ho hb (.int .i64 0) (.slice b L.length c)
    exact bodyPost_ret (v := .agg #[.int .i64 0, .slice b L.length c]) (by simp [results, Tryd.results15, go_sem, hc]) rfl ⟨_, _, rfl, r1, r2⟩
  · have e2 : idsR ds = [] := if_neg h0
    rw [e2]
    have hne : (idsC ds != 0) = true := by simpa using h0
    clear e2 h0
    generalize idsC ds = r at hf hne
    go_enter Tryd.func15, Tryd.ntmps15
    go_wp2_with fail
    refine (hf _ (h.below (by go_grown))).mono ?_
    rintro e w' ⟨rfl, rfl⟩
    go_wp2
    exact bodyPost_ret (v := .agg #[.int .i64 r, .slice none 0 0]) (by simp [results, Tryd.results15, go_sem]) rfl ⟨_, _, rfl, World.ownsRow_nil _ _ _ _, by go_grown⟩

set_option maxRecDepth 100000 in
set_option maxHeartbeats 2000000 in
theorem implIdsOf_any (v : Value) (ds : List TxnD) (w : World) (h : TxnsAt w v ds) (hl : ds.length + sumA ds ≤ 1048576) :
    Calls Tryd.prog 11 #[v] w fun e w' => ∃ b c, e = .returned (.agg #[.int .i64 (idsC ds), .slice b (idsR ds).length c]) ∧
      w'.ownsRow w.heap.size 2 1 (.slice b (idsR ds).length c) (idsR ds).length ((idsR ds).map (Value.int .i64)) ∧ Below w.heap.size w w' := by
  obtain ⟨a, cap, rfl⟩ := h.shape
  by_cases h60 : 60 < ds.length
  · have e1 : idsC ds = 2 := if_pos h60
    have e2 : idsR ds = [] := if_neg (by rw [e1]; decide)
    rw [e1, e2]
    clear e1 e2
    go_enter Tryd.func11, Tryd.ntmps11
    go_wp2
    exact bodyPost_ret (v := .agg #[.int .i64 2, .slice none 0 0]) (by simp [results, Tryd.results11, go_sem]) rfl ⟨_, _, rfl, World.ownsRow_nil _ _ _ _, by go_grown⟩
  · have e1 : idsC ds = allF ds := if_neg h60
    have hR0 : Box2 (w.alloc (.cells #[.int .i64 0, .slice none 0 0] 41)) w.heap.size (.int .i64 0) (.slice none 0 0) := ⟨by simp, by simp, by simp, by simp, by simp⟩
    have hb0 : Below w.heap.size w (w.alloc (.cells #[.int .i64 0, .slice none 0 0] 41)) := by go_grown
    obtain ⟨i0, hi, hz0, hz1, hz2⟩ := info_parts infoI64
    go_enter Tryd.func11, Tryd.ntmps11
    go_wp2
    generalize w.alloc (.cells #[.int .i64 0, .slice none 0 0] 41) = W at hR0 hb0
    have hsW := hR0.lt
    go_loopw [3, 13] (fun v j wr => ∃ k : Nat, k ≤ ds.length ∧ j = .int .i64 k ∧ wr.ownsRow W.heap.size 2 1 v (idsL ds k).length ((idsL ds k).map (Value.int .i64)) ∧ Below W.heap.size W wr ∧ Hid (∀ j, j < k → (ds.getD j txnNo).F = 0)) (fun _ j _ => ds.length - (intOf j).toNat)
    case atStart => exact ⟨0, Nat.zero_le _, rfl, World.ownsRow_nil _ _ _ _, Below.refl _ _, fun j hj => absurd hj (Nat.not_lt_zero _)⟩
    case round =>
      obtain ⟨k, hk, rfl, ho, hb, HA⟩ := hrel
      have hsz := hb.size
      have hkl : (idsL ds k).length ≤ 60 := by rw [idsL_length ds k hk]; omega
      obtain ⟨a1, c1, rfl⟩ := own_shape ho
      by_cases hlt : k < ds.length
      · obtain ⟨b, off, aa, cc, rfl, hbs, hc0, hc1, hc2, hc3, hA⟩ := (h.below (below_from hb0 hb)).at k hlt
        have hzl : (ds.getD k txnNo).acts.length ≤ sumA ds := mem_le_sumA (by simp [List.getD, hlt])
        have hcall := fun w h => txnFault_any (ds.getD k txnNo).id (ds.getD k txnNo).session (ds.getD k txnNo).seq aa cc (ds.getD k txnNo).acts w h (by omega)
        change ∀ w h, Calls _ _ _ _ fun e w' => e = .returned (.int .i64 ((ds.getD k txnNo).F)) ∧ _ at hcall
        by_cases hF : (ds.getD k txnNo).F = 0
        · have HB : Hid (∀ j, j < k + 1 → (ds.getD j txnNo).F = 0) := by
            intro j hj
            by_cases hjk : j = k
            · subst hjk; exact hF
            · exact HA.out j (by omega)
          have hsu : Hid (idsL ds (k + 1) = idsL ds k ++ [(ds.getD k txnNo).id]) := idsL_succ ds k hlt
          rw [hF] at hcall
          clear HA hF
          generalize ds.getD k txnNo = z at hc0 hc1 hc2 hc3 hA hcall hsu hzl
          obtain ⟨z0, z1, z2, zs⟩ := z
          dsimp only at hc0 hc1 hc2 hc3 hA hcall hzl
          have hW1 : Below wr.heap.size wr (wr.alloc (.cells #[.int .i64 z0, .int .i64 z1, .int .i64 z2, .slice aa zs.length cc] 27)) := by go_grown
          have hBt := Blk.new wr 27 #[.int .i64 z0, .int .i64 z1, .int .i64 z2, .slice aa zs.length cc]
          go_wp2_with fail
          generalize wr.alloc (.cells #[.int .i64 z0, .int .i64 z1, .int .i64 z2, .slice aa zs.length cc] 27) = w1 at hW1 hBt
          refine (hcall _ (hA.below hW1)).mono ?_
          rintro e w2 ⟨rfl, hb2⟩
          replace hW1 := hW1.trans (hb2.mono hW1.size)
          have p0 := (hBt.below hb2).cell 0 _ rfl
          have ho1 := own_below ho hW1
          have hs2 := hW1.size
          clear hb2 hBt hcall hA hc0 hc1 hc2 hc3
          have hW2 : Below W.heap.size w2 (w2.alloc (.cells #[.int .i64 z0] 2)) := (Below.refl _ _).alloc (by omega) _
          have ho2 := ho1.alloc (.cells #[.int .i64 z0] 2)
          go_wp2_with (at_builtin; refine wpList_append_own _ rfl _ _ 39 rfl W.heap.size 2 i0 (.int .i64 0) 1 8 Tryd.underlying39 hi hz0 hz1 hz2 rfl (by decide) _ (idsL ds k).length ((idsL ds k).map (Value.int .i64)) rfl ho2 ⟨w2.heap.size, 0, none⟩ 1 1 [.int .i64 z0] rfl rfl ?c1 ?c2 ?c3 ?c4 ?c5 ?_)
          all_goals try
            (case c1 => intro j u hj; match j, hj with | 0, hj => simp at hj; subst hj; simp [Addr.add])
          all_goals try (case c2 => first | rfl | (intro u hu; simp at hu; subst hu; rfl))
          all_goals try (case c3 => unfold maxLen; omega)
          all_goals try (case c4 => omega)
          all_goals try (case c5 => first | omega | (simp; omega))
          intro v' w3 hown hgrow _
          obtain ⟨a2, c2, rfl⟩ := own_shape hown
          have hW3 : Below W.heap.size w2 w3 := hW2.grown hgrow (by simp; omega) (fun j hj => (ho1.lt j hj).1)
          have R : Hid (w3.ownsRow W.heap.size 2 1 (.slice a2 ((idsL ds k).length + 1) c2) ((idsL ds k).length + 1) ((idsL ds k ++ [z0]).map (Value.int .i64)) ∧ Below W.heap.size W w3) := ⟨by simpa using hown, (hb.trans (hW1.mono hsz)).trans hW3⟩
          clear hW2 hgrow ho2 ho hown hW3 ho1 hW1 p0
          go_wp2
          go_roundw
          case rel =>
            refine ⟨k + 1, by omega, by go_num, ?_, R.out.2, HB⟩
            rw [hsu.out]
            simpa using R.out.1
          case measure => simp [intOf]; omega
        · have E : Hid (allF ds = (ds.getD k txnNo).F) := allF_first ds k HA.out hlt hF
          have hne : ((ds.getD k txnNo).F != 0) = true := by simpa using hF
          have E2 : Hid (idsR ds = []) := if_neg (by rw [e1, E.out]; exact hF)
          clear HA hF
          generalize (ds.getD k txnNo).F = r at hcall E hne
          generalize ds.getD k txnNo = z at hc0 hc1 hc2 hc3 hA hcall hzl
          obtain ⟨z0, z1, z2, zs⟩ := z
          dsimp only at hc0 hc1 hc2 hc3 hA hcall hzl
          have hW1 : Below wr.heap.size wr (wr.alloc (.cells #[.int .i64 z0, .int .i64 z1, .int .i64 z2, .slice aa zs.length cc] 27)) := by go_grown
          have E1 : Hid (idsC ds = allF ds) := e1
          clear e1
          go_wp2_with fail
          generalize wr.alloc (.cells #[.int .i64 z0, .int .i64 z1, .int .i64 z2, .slice aa zs.length cc] 27) = w1 at hW1
          refine (hcall _ (hA.below hW1)).mono ?_
          rintro e w2 ⟨rfl, hb2⟩
          obtain ⟨hlt0, q0, q1, g0, g1⟩ := ((hR0.below hb).below hW1).below hb2
          clear hcall hA hc0 hc1 hc2 hc3 ho
          go_wp2
          refine bodyPost_ret (v := .agg #[.int .i64 r, .slice none 0 0]) (by simp [results, Tryd.results11, go_sem, q0, q1]) rfl ?_
          rw [E1.out, E.out, E2.out]
          refine ⟨_, _, rfl, World.ownsRow_nil _ _ _ _, ?_⟩
          repeat' (refine Below.setCell ?_ (by dsimp only; omega) _)
          exact below_from (below_from (below_from hb0 hb) hW1) hb2
      · have hkk : k = ds.length := by omega
        subst hkk
        have E : Hid (idsC ds = 0) := e1.trans (allF_none ds HA.out)
        have E2 : Hid (idsR ds = idsL ds ds.length) := by
          show _ = _
          rw [show idsR ds = ds.map TxnD.id from if_pos E.out]
          simp [idsL]
        clear HA e1
        obtain ⟨hlt0, q0, q1, g0, g1⟩ := hR0.below hb
        generalize idsL ds ds.length = L at ho E2 hkl
        go_wp2
        refine bodyPost_ret (v := .agg #[.int .i64 0, .slice a1 L.length c1]) (by simp [results, Tryd.results11, go_sem, q0, q1]) rfl ?_
        rw [E.out, E2.out]
        refine ⟨_, _, rfl, ?_, ?_⟩
        · refine own_base (base := W.heap.size) ?_ hb0.size
          repeat' (refine ownsRow_setCell_below ?_ (by dsimp only; omega) _)
          exact ho
        · repeat' (refine Below.setCell ?_ (by dsimp only; omega) _)
          exact below_from hb0 hb

end Go.Proofs.YtjaoggkpnjkkpaaDoor

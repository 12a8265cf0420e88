/- The batch, the rounds, and what was decided, laid anew out of a board. -/
import Derived.Test.YtkklhbofeghnbaaDoorI6g
import Derived.Test.YtkklhbofeghnbaaDoorMid6
import Derived.Test.YtkklhbofeghnbaaDoorFoot3
namespace Go.Proofs.YtkklhbofeghnbaaDoor
open Go.RowKit
open Go.BigFrame
set_option linter.unusedVariables false
set_option linter.unusedSimpArgs false
set_option maxRecDepth 100000

set_option maxHeartbeats 2000000 in
theorem cloneTxns_any (v : Value) (ps : List TxnQ) (w : World) (h : txnK.At w v ps) (hne : ∀ p ∈ ps, 0 < p.acts.length) (hl : ps.length + nmL TxnQ.n ps ≤ 1048576) :
    Calls Tryd.prog 25 #[v] w fun e w' => ∃ v' qs, e = .returned v' ∧ qs.map TxnQ.e = ps.map TxnQ.e ∧ txnK.Own w' v' qs ∧ (txnK.fp v' qs).Nodup ∧ (∀ k ∈ txnK.fp v' qs, w.heap.size ≤ k) ∧ Below w.heap.size w w' := by
  obtain ⟨a, cap, rfl⟩ := h.shape
  obtain ⟨i0, hi, hz0, hz1, hz2⟩ := info_parts infoTxn
  obtain ⟨hn1, hn2⟩ := Kind.own_nil (K := txnK) w
  have HN0 : Hid ((txnK.fp (.slice none 0 0) ([] : List TxnQ)).Nodup ∧ ∀ k ∈ txnK.fp (.slice none 0 0) ([] : List TxnQ), w.heap.size ≤ k) := by
    rw [hn2]
    exact ⟨by simp, by simp⟩
  clear hn2
  go_enter Tryd.func25, Tryd.ntmps25
  go_wp2
  go_loopw [3, 8] (fun v j wr => ∃ (k : Nat) (qs : List TxnQ), k ≤ ps.length ∧ j = .int .i64 k ∧ Hid (qs.map TxnQ.e = (ps.take k).map TxnQ.e) ∧ txnK.Own wr v qs ∧ Hid ((txnK.fp v qs).Nodup ∧ ∀ k ∈ txnK.fp v qs, w.heap.size ≤ k) ∧ Below w.heap.size w wr) (fun _ j _ => ps.length - (intOf j).toNat)
  case atStart => exact ⟨0, [], Nat.zero_le _, rfl, (rfl : _ = _), hn1, HN0, Below.refl _ _⟩
  case round =>
    clear HN0 hn1
    obtain ⟨k, qs, hk, rfl, HE, hO, HN, hb⟩ := hrel
    obtain ⟨sa, sc, rfl⟩ := hO.shape
    have HQL : Hid (qs.length = k) := by
      have := congrArg List.length HE.out
      rw [List.length_map, List.length_map, List.length_take] at this
      show qs.length = k
      omega
    by_cases hlt : k < ps.length
    · obtain ⟨b, off, rfl, hbs, hc, hrd⟩ := (h.below hb).cell (by decide) k hlt
      have hc' : ∀ j x, (txnK.cells ps[k])[j]? = some x → wr.cell? ⟨b, off + k * 4 + j, none⟩ = some x := hc
      have c0 := hc' 0 (.int .i64 ps[k].i) rfl
      have c1 := hc' 1 (.int .i64 ps[k].s) rfl
      have c2 := hc' 2 (.int .i64 ps[k].q) rfl
      have c3 := hc' 3 (ps[k].va) rfl
      have hzl := nm_le TxnQ.n ps k hlt
      have hpos := hne _ (List.getElem_mem hlt)
      have HPE : Hid (∀ p' : TxnQ, p'.e = TxnQ.e ps[k] → (qs ++ [p']).map TxnQ.e = (ps.take (k + 1)).map TxnQ.e) := fun p' hp' => by
        rw [List.take_succ_eq_append_getElem hlt, List.map_append, List.map_append, HE.out, List.map_singleton, List.map_singleton, hp']
      clear hc hc'
      generalize ps[k] = p at *
      obtain ⟨i, s, q, va, acts⟩ := p
      replace hrd : actK.At wr va acts := hrd
      replace hzl : acts.length ≤ nmL TxnQ.n ps := hzl
      obtain ⟨aa, ac, rfl⟩ := hrd.shape
      dsimp only at c0 c1 c2 c3 hpos
      obtain ⟨ab, ao, haa⟩ : ∃ ab ao, aa = some ⟨ab, ao, none⟩ := by
        rcases (actK_at hrd).2 with h0 | ⟨ab, ao, e, _⟩
        · have := actCells_length acts
          rw [h0] at this
          simp at this
          omega
        · exact ⟨ab, ao, e⟩
      subst haa
      have hbY : Below wr.heap.size wr (wr.alloc (.cells #[.int .i64 i, .int .i64 s, .int .i64 q, .slice (some ⟨ab, ao, none⟩) acts.length ac] 82)) := by go_grown
      have hcl := cloneTxn_any i s q ab ao ac acts _ ((actK_at hrd).2.below hbY) hpos (by omega)
      rw [Nat.add_zero] at c0
      replace hO := hO.below hbY
      replace hb := hb.trans (hbY.mono hb.size)
      clear HE hbY
      go_wp2_with fail
      clear c0 c1 c2 c3
      generalize wr.alloc (.cells #[.int .i64 i, .int .i64 s, .int .i64 q, .slice (some ⟨ab, ao, none⟩) acts.length ac] 82) = Y at *
      have hYs : w.heap.size ≤ Y.heap.size := hb.size
      refine hcl.mono ?_
      rintro e w2 ⟨a2, c2, rfl, ho2, hb2⟩
      have HLT := hO.lt
      replace hO := hO.below hb2
      replace hb := hb.trans (hb2.mono hb.size)
      obtain ⟨o2, hk2⟩ := own_zero ho2
      have hP : txnK.own w2 ⟨i, s, q, .slice a2 acts.length c2, acts⟩ := ⟨o2, fun _ _ => trivial⟩
      have hPlo : ∀ x ∈ txnK.foot ⟨i, s, q, .slice a2 acts.length c2, acts⟩, Y.heap.size ≤ x := fun x hx => hk2 x (by rw [← actK_fp (.slice a2 acts.length c2) acts]; exact hx)
      have hPn : (txnK.foot ⟨i, s, q, .slice a2 acts.length c2, acts⟩).Nodup := by
        show (actK.fp _ _).Nodup
        rw [actK_fp]; exact blk_nodup _
      have hbA : Below w2.heap.size w2 (w2.alloc (.cells #[.int .i64 i, .int .i64 s, .int .i64 q, .slice a2 acts.length c2] 82)) := by go_grown
      have hOA := hO.below hbA
      have hPA := txnK.own_out (F := []) hP (Out.of_below hbA) (fun _ _ => by simp)
      have hbB := hb.trans (hbA.mono hb.size)
      clear hcl ho2 hO hP hk2
      have hrow0 := hOA.1
      go_wp2_with (at_builtin; refine wpList_append_own_at _ rfl _ _ 35 rfl 0 82 i0 (.agg #[.int .i64 0, .int .i64 0, .int .i64 0, .slice none 0 0]) 4 48 Tryd.underlying35 hi hz0 hz1 hz2 rfl (by decide) _ qs.length (txnK.row qs) rfl hrow0 ⟨w2.heap.size, 0, none⟩ 1 1 [.int .i64 i, .int .i64 s, .int .i64 q, .slice a2 acts.length c2] rfl rfl ?c1 ?c2 ?c3 ?c4 ?c5 ?_)
      all_goals try (case c1 => intro j u hj; match j, hj with | 0, hj => simp at hj; subst hj; simp [Addr.add] | 1, hj => simp at hj; subst hj; simp [Addr.add] | 2, hj => simp at hj; subst hj; simp [Addr.add] | 3, hj => simp at hj; subst hj; simp [Addr.add])
      all_goals try (case c2 => intro u hu; simp at hu; rcases hu with rfl | rfl | rfl | rfl <;> rfl)
      all_goals try (case c3 => have := HQL.out; unfold maxLen; omega)
      all_goals try (case c4 => have := HQL.out; omega)
      all_goals try (case c5 => first | omega | simp)
      intro v' w5 hown hgrow hnil hat
      clear hnil hrow0
      rw [show w2.heap.size + 1 = (w2.alloc (.cells #[.int .i64 i, .int .i64 s, .int .i64 q, .slice a2 acts.length c2] 82)).heap.size from (World.size_alloc _ _).symm] at hat
      generalize hwA : w2.alloc (.cells #[.int .i64 i, .int .i64 s, .int .i64 q, .slice a2 acts.length c2] 82) = WA at *
      clear hwA
      have hsz : Y.heap.size ≤ WA.heap.size := by have := hb2.size; have := hbA.size; omega
      obtain ⟨hO5, hn5, hlo5, hou⟩ := hOA.snoc HN.out.1 HN.out.2 hPA hPn (fun x hx hx' => by have := HLT x hx'; have := hPlo x hx; omega) (fun x hx => by have := hPlo x hx; omega) hbB.size hown hgrow hat
      have hb5 : Below w.heap.size w w5 := Out.keep hbB hou hbB.size (fun x hx => HN.out.2 x (by simp only [Kind.fp, List.mem_append]; exact Or.inl hx))
      have HE5 : Hid ((qs ++ [(⟨i, s, q, .slice a2 acts.length c2, acts⟩ : TxnQ)]).map TxnQ.e = (ps.take (k + 1)).map TxnQ.e) := HPE.out _ rfl
      have HN5 : Hid ((txnK.fp v' (qs ++ [(⟨i, s, q, .slice a2 acts.length c2, acts⟩ : TxnQ)])).Nodup ∧ ∀ k ∈ txnK.fp v' (qs ++ [(⟨i, s, q, .slice a2 acts.length c2, acts⟩ : TxnQ)]), w.heap.size ≤ k) := ⟨hn5, hlo5⟩
      clear HPE HN HLT hPlo hPn hPA hOA hbB hown hgrow hat hou hn5 hlo5 hrd hb hbA hb2 hzl hpos
      go_wp2
      go_roundw
      case rel => exact ⟨k + 1, _, by omega, by go_num, HE5, hO5, HN5, hb5⟩
      case measure => simp [intOf]; omega
    · have hkl : k = ps.length := by omega
      subst hkl
      have hE := HE.out
      rw [List.take_length] at hE
      clear HE
      go_wp2
      go_ret
      exact ⟨_, qs, rfl, hE, hO, HN.out.1, HN.out.2, hb⟩

end Go.Proofs.YtkklhbofeghnbaaDoor

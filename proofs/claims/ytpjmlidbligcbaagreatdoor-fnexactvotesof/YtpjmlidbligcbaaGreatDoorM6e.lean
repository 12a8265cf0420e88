/- Copies of the model: a list of numbers, a list of transactions. -/
import Derived.Test.YtpjmlidbligcbaaGreatDoorI6m
namespace Go.Proofs.YtpjmlidbligcbaaGreatDoor
open Go.RowKit
open Go.BigFrame
set_option linter.unusedVariables false
set_option maxRecDepth 100000
set_option linter.unusedSimpArgs false

set_option maxHeartbeats 1000000 in
theorem l1Ints_own (b off cap : Nat) (zs : List Int) (w : World) (h : Row .i64 w (some ⟨b, off, none⟩) zs) (h0 : 0 < zs.length) (hl : zs.length ≤ 1048576) :
    Calls Tryz.prog 173 #[.slice (some ⟨b, off, none⟩) zs.length cap] w fun e w' => ∃ a c, e = .returned (.slice a zs.length c) ∧
      w'.ownsRow w.heap.size 2 1 (.slice a zs.length c) zs.length (zs.map iv) ∧ Below w.heap.size w w' := by
  obtain ⟨i0, hi, hz0, hz1, hz2⟩ := info_parts infoI6
  have hs := lies_src (Lies.below (lies_of_row h) (w' := w.alloc (.cells #[] 2)) (by go_grown))
  have hcl : (zs.map iv).length = zs.length * 1 := by simp
  have ho := World.ownsRow_lit (e := 2) (size := 1) w #[] 0 (Nat.le_refl _) (by decide) rfl
  have HS : Hid (∀ j u, (zs.map iv)[j]? = some u → _) := hs
  clear hs
  go_enter Tryz.func173, Tryz.ntmps173
  go_wp2_with (at_builtin; refine wpList_append_own _ rfl _ _ 26 rfl w.heap.size 2 i0 (.int .i64 0) 1 8 Tryz.underlying26 hi hz0 hz1 hz2 rfl (by decide) _ 0 [] rfl ho ⟨b, off, none⟩ zs.length cap (zs.map iv) rfl hcl HS.out ?c2 ?c3 ?c4 ?c5 ?_)
  all_goals try (case c2 => first | (intro u hu; obtain ⟨z, _, rfl⟩ := List.mem_map.1 hu; rfl) | (intro u hu; rfl))
  all_goals try (case c3 => unfold maxLen; omega)
  all_goals try (case c4 => omega)
  all_goals try (case c5 => simp)
  intro v' w2 hown hgrow _
  obtain ⟨a2, c2, rfl⟩ := own_shape hown
  have hb2 : Below w.heap.size w w2 := ((Below.refl _ _).alloc (Nat.le_refl _) _).grown hgrow (by simp) (fun k hk => by simp [Value.ownBlock] at hk; omega)
  try simp only [Nat.zero_add] at hown
  clear hgrow HS ho
  go_wp2
  go_ret
  exact ⟨a2, c2, rfl, by simpa using hown, hb2⟩

theorem l1Ints_any (v : Value) (zs : List Int) (w : World) (h : intK.At w v zs) (h0 : 0 < zs.length) (hl : zs.length ≤ 1048576) :
    Calls Tryz.prog 173 #[v] w fun e w' => ∃ a c, e = .returned (.slice a zs.length c) ∧ intK.Own w' (.slice a zs.length c) zs ∧ (∀ k ∈ intK.fp (.slice a zs.length c) zs, w.heap.size ≤ k) ∧ Below w.heap.size w w' := by
  obtain ⟨a, cap, rfl⟩ := h.shape
  have hR := (intK_at h).2
  obtain ⟨b, off, rfl, _⟩ := hR 0 h0
  refine (l1Ints_own b off cap zs w hR h0 hl).mono ?_
  rintro e w2 ⟨a2, c2, rfl, ho, hb⟩
  obtain ⟨O, G⟩ := list_own rfl ho
  exact ⟨a2, c2, rfl, O, G, hb⟩

set_option maxHeartbeats 2000000 in
theorem l2CopyAll_any (v : Value) (ps : List TxnQ) (w : World) (h : txnK.At w v ps) (hne : ∀ p ∈ ps, 0 < p.acts.length) (hl : ps.length + nmL TxnQ.n ps ≤ 1048576) :
    Calls Tryz.prog 96 #[v] w fun e w' => ∃ v' qs, e = .returned v' ∧ qs.map TxnQ.e = ps.map TxnQ.e ∧ txnK.Own w' v' qs ∧ (txnK.fp v' qs).Nodup ∧ (∀ k ∈ txnK.fp v' qs, w.heap.size ≤ k) ∧ Below w.heap.size w w' := by
  obtain ⟨a, cap, rfl⟩ := h.shape
  obtain ⟨i0, hi, hz0, hz1, hz2⟩ := info_parts infoTxn
  have ho := World.ownsRow_lit (e := 68) (size := 4) w #[] 0 (Nat.le_refl _) (by decide) rfl
  have hn1 : txnK.Own (w.alloc (.cells #[] 68)) (.slice (some ⟨w.heap.size, 0, none⟩) 0 0) ([] : List TxnQ) := ⟨(own_zero ho).1, fun p hp => by simp at hp⟩
  have hnb : Below w.heap.size w (w.alloc (.cells #[] 68)) := by go_grown
  have HN0 : Hid ((txnK.fp (.slice (some ⟨w.heap.size, 0, none⟩) 0 0) ([] : List TxnQ)).Nodup ∧ ∀ k ∈ txnK.fp (.slice (some ⟨w.heap.size, 0, none⟩) 0 0) ([] : List TxnQ), w.heap.size ≤ k) := by
    refine ⟨?_, ?_⟩
    · simp [Kind.fp, blk, Value.ownBlock]
    · simp [Kind.fp, blk, Value.ownBlock]
  clear ho
  go_enter Tryz.func96, Tryz.ntmps96
  go_wp2
  go_loopw [3, 4] (fun v j wr => ∃ (k : Nat) (qs : List TxnQ), k ≤ ps.length ∧ j = .int .i64 k ∧ Hid (qs.map TxnQ.e = (ps.take k).map TxnQ.e) ∧ txnK.Own wr v qs ∧ Hid ((txnK.fp v qs).Nodup ∧ ∀ k ∈ txnK.fp v qs, w.heap.size ≤ k) ∧ Below w.heap.size w wr) (fun _ j _ => ps.length - (intOf j).toNat)
  case atStart => exact ⟨0, [], Nat.zero_le _, rfl, (rfl : _ = _), hn1, HN0, hnb⟩
  case round =>
    clear HN0 hn1 hnb
    obtain ⟨k, qs, hk, rfl, HE, hO, HN, hb⟩ := hrel
    obtain ⟨sa, sc, rfl⟩ := hO.shape
    have HQL : Hid (qs.length = k) := by
      have := congrArg List.length HE.out
      rw [List.length_map, List.length_map, List.length_take] at this
      show qs.length = k
      omega
    by_cases hlt : k < ps.length
    · obtain ⟨b, off, rfl, hbs, hc, hrd⟩ := (h.below hb).cell (by decide) k hlt
      have hc' : ∀ j x, (txnK.cells ps[k])[j]? = some x → wr.cell? ⟨b, off + k * 4 + j, none⟩ = some x := hc
      have c0 := hc' 0 (.int .i64 ps[k].i) rfl
      have c1 := hc' 1 (.int .i64 ps[k].s) rfl
      have c2 := hc' 2 (.int .i64 ps[k].q) rfl
      have c3 := hc' 3 (ps[k].va) rfl
      have hzl := nm_le TxnQ.n ps k hlt
      have hpos := hne _ (List.getElem_mem hlt)
      have HPE : Hid (∀ p' : TxnQ, p'.e = TxnQ.e ps[k] → (qs ++ [p']).map TxnQ.e = (ps.take (k + 1)).map TxnQ.e) := fun p' hp' => by
        rw [List.take_succ_eq_append_getElem hlt, List.map_append, List.map_append, HE.out, List.map_singleton, List.map_singleton, hp']
      clear hc hc'
      generalize ps[k] = p at *
      obtain ⟨i, s, q, va, acts⟩ := p
      replace hrd : actK.At wr va acts := hrd
      replace hzl : acts.length ≤ nmL TxnQ.n ps := hzl
      obtain ⟨aa, ac, rfl⟩ := hrd.shape
      dsimp only at c0 c1 c2 c3 hpos
      obtain ⟨ab, ao, haa⟩ : ∃ ab ao, aa = some ⟨ab, ao, none⟩ := by
        rcases (actK_at hrd).2 with h0 | ⟨ab, ao, e, _⟩
        · have := actCells_length acts
          rw [h0] at this
          simp at this
          omega
        · exact ⟨ab, ao, e⟩
      subst haa
      have hcl := l2Copy_any i s q ab ao ac acts _ (actK_at hrd).2 hpos (by omega)
      rw [Nat.add_zero] at c0
      clear HE
      go_wp2_with fail
      clear c0 c1 c2 c3
      have hYs : w.heap.size ≤ wr.heap.size := hb.size
      refine hcl.mono ?_
      rintro e w2 ⟨a2, c2, rfl, ho2, hb2⟩
      have HLT := hO.lt
      replace hO := hO.below hb2
      replace hb := hb.trans (hb2.mono hb.size)
      obtain ⟨o2, hk2⟩ := own_zero ho2
      have hP : txnK.own w2 ⟨i, s, q, .slice a2 acts.length c2, acts⟩ := ⟨o2, fun _ _ => trivial⟩
      have hPlo : ∀ x ∈ txnK.foot ⟨i, s, q, .slice a2 acts.length c2, acts⟩, wr.heap.size ≤ x := fun x hx => hk2 x (by rw [← actK_fp (.slice a2 acts.length c2) acts]; exact hx)
      have hPn : (txnK.foot ⟨i, s, q, .slice a2 acts.length c2, acts⟩).Nodup := by
        show (actK.fp _ _).Nodup
        rw [actK_fp]; exact blk_nodup _
      have hbA : Below w2.heap.size w2 (w2.alloc (.cells #[.int .i64 i, .int .i64 s, .int .i64 q, .slice a2 acts.length c2] 68)) := by go_grown
      have hOA := hO.below hbA
      have hPA := txnK.own_out (F := []) hP (Out.of_below hbA) (fun _ _ => by simp)
      have hbB := hb.trans (hbA.mono hb.size)
      clear hcl ho2 hO hP hk2
      have hrow0 := hOA.1
      go_wp2_with (at_builtin; refine wpList_append_own_at _ rfl _ _ 24 rfl 0 68 i0 (.agg #[.int .i64 0, .int .i64 0, .int .i64 0, .slice none 0 0]) 4 48 Tryz.underlying24 hi hz0 hz1 hz2 rfl (by decide) _ qs.length (txnK.row qs) rfl hrow0 ⟨w2.heap.size, 0, none⟩ 1 1 [.int .i64 i, .int .i64 s, .int .i64 q, .slice a2 acts.length c2] rfl rfl ?c1 ?c2 ?c3 ?c4 ?c5 ?_)
      all_goals try (case c1 => intro j u hj; match j, hj with | 0, hj => simp at hj; subst hj; simp [Addr.add] | 1, hj => simp at hj; subst hj; simp [Addr.add] | 2, hj => simp at hj; subst hj; simp [Addr.add] | 3, hj => simp at hj; subst hj; simp [Addr.add])
      all_goals try (case c2 => intro u hu; simp at hu; rcases hu with rfl | rfl | rfl | rfl <;> rfl)
      all_goals try (case c3 => have := HQL.out; unfold maxLen; omega)
      all_goals try (case c4 => have := HQL.out; omega)
      all_goals try (case c5 => first | omega | simp)
      intro v' w5 hown hgrow hnil hat
      clear hnil hrow0
      rw [show w2.heap.size + 1 = (w2.alloc (.cells #[.int .i64 i, .int .i64 s, .int .i64 q, .slice a2 acts.length c2] 68)).heap.size from (World.size_alloc _ _).symm] at hat
      generalize hwA : w2.alloc (.cells #[.int .i64 i, .int .i64 s, .int .i64 q, .slice a2 acts.length c2] 68) = WA at *
      clear hwA
      have hsz : wr.heap.size ≤ WA.heap.size := by have := hb2.size; have := hbA.size; omega
      obtain ⟨hO5, hn5, hlo5, hou⟩ := hOA.snoc HN.out.1 HN.out.2 hPA hPn (fun x hx hx' => by have := HLT x hx'; have := hPlo x hx; omega) (fun x hx => by have := hPlo x hx; omega) hbB.size hown hgrow hat
      have hb5 : Below w.heap.size w w5 := Out.keep hbB hou hbB.size (fun x hx => HN.out.2 x (by simp only [Kind.fp, List.mem_append]; exact Or.inl hx))
      have HE5 : Hid ((qs ++ [(⟨i, s, q, .slice a2 acts.length c2, acts⟩ : TxnQ)]).map TxnQ.e = (ps.take (k + 1)).map TxnQ.e) := HPE.out _ rfl
      have HN5 : Hid ((txnK.fp v' (qs ++ [(⟨i, s, q, .slice a2 acts.length c2, acts⟩ : TxnQ)])).Nodup ∧ ∀ k ∈ txnK.fp v' (qs ++ [(⟨i, s, q, .slice a2 acts.length c2, acts⟩ : TxnQ)]), w.heap.size ≤ k) := ⟨hn5, hlo5⟩
      clear HPE HN HLT hPlo hPn hPA hOA hbB hown hgrow hat hou hn5 hlo5 hrd hb hbA hb2 hzl hpos
      go_wp2
      go_roundw
      case rel => exact ⟨k + 1, _, by omega, by go_num, HE5, hO5, HN5, hb5⟩
      case measure => simp [intOf]; omega
    · have hkl : k = ps.length := by omega
      subst hkl
      have hE := HE.out
      rw [List.take_length] at hE
      clear HE
      go_wp2
      go_ret
      exact ⟨_, qs, rfl, hE, hO, HN.out.1, HN.out.2, hb⟩

end Go.Proofs.YtpjmlidbligcbaaGreatDoor

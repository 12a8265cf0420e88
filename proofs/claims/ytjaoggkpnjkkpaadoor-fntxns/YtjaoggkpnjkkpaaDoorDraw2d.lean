/- What the draws of lists of transactions tell at whatever bytes; the draws of chapter 3 that need a transaction. -/
import Derived.Test.YtjaoggkpnjkkpaaDoorDraw2c
namespace Go.Proofs.YtjaoggkpnjkkpaaDoor
open Go.RowKit Go.Maps
set_option linter.unusedVariables false
set_option linter.unusedSimpArgs false

/-- A list of transactions that is owned whole, its acts elsewhere than the list. -/
def TxnRow (base : Nat) (w : World) (v : Value) (ps : List TxnP) : Prop :=
  w.ownsRow base 27 4 v ps.length (txnCells ps) ∧ (∀ p ∈ ps, w.ownsRow base 54 3 p.sl p.d.acts.length (actCells p.d.acts) ∧ (p.sl.ownBlock = none ∨ p.sl.ownBlock ≠ v.ownBlock)) ∧ v ≠ .slice none 0 0

theorem TxnRow.at {base : Nat} {w : World} {v : Value} {ps : List TxnP} (h : TxnRow base w v ps) : TxnsAt w v (ps.map TxnP.d) := by
  obtain ⟨a, c, rfl⟩ := own_shape h.1
  refine ⟨a, c, ps, by simp, rfl, Lies.own h.1, fun p hp => ?_⟩
  exact Lies.own (h.2.1 p hp).1

theorem TxnRow.src {base b : Nat} {w w' : World} {v : Value} {ps : List TxnP} (h : TxnRow base w v ps) (hb : b < base) (hg : w.grownBy w' (some b)) : TxnRow base w' v ps :=
  ⟨h.1.kept hg (Or.inr (fun e => own_not3 h.1 (Or.inl hb) e.symm)), fun p hp => ⟨(h.2.1 p hp).1.kept hg (Or.inr (fun e => own_not3 (h.2.1 p hp).1 (Or.inl hb) e.symm)), (h.2.1 p hp).2⟩, h.2.2⟩

theorem TxnRow.below {base : Nat} {w w' : World} {v : Value} {ps : List TxnP} (h : TxnRow base w v ps) (hb : Below w.heap.size w w') : TxnRow base w' v ps :=
  ⟨own_below h.1 hb, fun p hp => ⟨own_below (h.2.1 p hp).1 hb, (h.2.1 p hp).2⟩, h.2.2⟩

theorem TxnRow.append {base : Nat} {w w' : World} {v v' : Value} {ps : List TxnP} (h : TxnRow base w v ps) (p : TxnP) (hp : w.ownsRow base 54 3 p.sl p.d.acts.length (actCells p.d.acts)) (hpn : p.sl.ownBlock = none ∨ p.sl.ownBlock ≠ v.ownBlock)
    (hown : w'.ownsRow base 27 4 v' (ps.length + 1) (txnCells ps ++ p.cells)) (hgrow : w.grownBy w' v.ownBlock) (hat : v'.ownBlock = v.ownBlock ∨ v'.ownBlock = some w.heap.size) (hnv : v' ≠ .slice none 0 0) : TxnRow base w' v' (ps ++ [p]) := by
  have key : ∀ r : TxnP, w.ownsRow base 54 3 r.sl r.d.acts.length (actCells r.d.acts) → (r.sl.ownBlock = none ∨ r.sl.ownBlock ≠ v.ownBlock) → w'.ownsRow base 54 3 r.sl r.d.acts.length (actCells r.d.acts) ∧ (r.sl.ownBlock = none ∨ r.sl.ownBlock ≠ v'.ownBlock) := by
    intro r hr hn
    refine ⟨hr.kept hgrow hn, ?_⟩
    rcases hn with e | e
    · exact Or.inl e
    · right
      rcases hat with e2 | e2
      · rw [e2]; exact e
      · rw [e2]
        intro e3
        have := (hr.lt _ e3).2
        omega
  refine ⟨by simpa [txnCells] using hown, fun r hr => ?_, hnv⟩
  simp only [List.mem_append, List.mem_singleton] at hr
  rcases hr with hr | rfl
  · exact key r (h.2.1 r hr).1 (h.2.1 r hr).2
  · exact key r hp hpn

theorem made61 : (madeCells #[Value.int .i64 0, .int .i64 0, .int .i64 0, .slice none 0 0] (61 * 4)).toList = txnCells (List.replicate 61 txnPNo) := by kernel_rfl

theorem sumA_le {ds : List TxnD} (h : ∀ d ∈ ds, d.acts.length ≤ 5) : sumA ds ≤ 5 * ds.length := by
  unfold sumA
  induction ds with
  | nil => simp
  | cons x r ih =>
    have := ih (fun d hd => h d (List.mem_cons_of_mem _ hd))
    have := h x (List.mem_cons_self ..)
    simp only [List.map_cons, List.sum_cons, List.length_cons]
    omega

set_option maxRecDepth 100000 in
set_option maxHeartbeats 1000000 in
theorem l2Many_any (B b T : Nat) (w : World) (hS : Src B w b T) (hT : T ≤ 800000) :
    Calls Tryd.prog 47 #[.pointer (some ⟨b, 0, none⟩), .int .i64 6] w fun e w' => ∃ (v : Value) (ps : List TxnP), e = .returned v ∧ ps.length ≤ 5 ∧ (∀ p ∈ ps, p.d.acts.length ≤ 5) ∧ TxnRow w.heap.size w' v ps ∧ Src B w' b (T + 100) ∧ w.grownBy w' (some b) := by
  obtain ⟨i0, hi, hz0, hz1, hz2⟩ := info_parts infoTxn
  have hlt := hS.lt
  have ho0 : (w.alloc (.cells #[] 27)).ownsRow w.heap.size 27 4 (.slice (some ⟨w.heap.size, 0, none⟩) 0 0) 0 [] := World.ownsRow_lit w #[] 0 (Nat.le_refl _) (by decide) rfl
  have hg : w.grownBy (w.alloc (.cells #[] 27)) (some b) := World.grownBy_alloc w _ _
  replace hS : Src B (w.alloc (.cells #[] 27)) b T := hS.below (by go_grown)
  go_enter Tryd.func47, Tryd.ntmps47
  go_wp2_with fail
  generalize w.alloc (.cells #[] 27) = W1 at ho0 hg hS
  refine (next_any B b T 6 W1 hS (by omega) (by omega)).mono ?_
  rintro e w3 ⟨r, rfl, hr, hSn, hgn⟩
  obtain ⟨j0, rfl⟩ := Int.eq_ofNat_of_zero_le hr.1
  have hj0 : j0 ≤ 5 := by have := hr.2.1 (by omega); omega
  have hR0 : TxnRow w.heap.size W1 (.slice (some ⟨w.heap.size, 0, none⟩) 0 0) [] := ⟨ho0, by simp, by simp⟩
  replace hR0 := hR0.src hlt.2 hgn
  replace hg := hg.trans hgn
  replace hS := hSn
  clear hgn hSn hr ho0
  go_wp2
  go_loopw [5, 6] (fun v c wr => ∃ (j : Nat) (ps : List TxnP), c = .int .i64 j ∧ j + ps.length ≤ 5 ∧ Hid (∀ p ∈ ps, p.d.acts.length ≤ 5) ∧ TxnRow w.heap.size wr v ps ∧ Src B wr b (T + 1 + 13 * ps.length) ∧ w.grownBy wr (some b)) (fun _ c _ => (intOf c).toNat)
  case atStart => exact ⟨j0, [], rfl, by simp; omega, by intro p hp; simp at hp, hR0, hS, hg⟩
  case round =>
    clear hR0 hS hg
    obtain ⟨j, ps, rfl, hj, HP, hR, hS, hg⟩ := hrel
    have hsz := hg.size
    obtain ⟨a1, c1, rfl⟩ := own_shape hR.1
    by_cases hpos : 0 < j
    · go_wp2_with fail
      refine (l2Draw_any B b (T + 1 + 13 * ps.length) wr hS (by omega)).mono ?_
      rintro e w4 ⟨i, s, q, a, c, xs, rfl, hx1, hx3, ho, hSn, hgn⟩
      have hpn : Value.ownBlock (.slice a xs.length c) = none ∨ Value.ownBlock (.slice a xs.length c) ≠ Value.ownBlock (.slice a1 ps.length c1) := own_apart3' hR.1 ho (Nat.le_refl _)
      replace hR := hR.src hlt.2 hgn
      replace hg := hg.trans hgn
      replace hS := hSn
      replace ho := own_base ho hsz
      clear hgn hSn
      have hbA : Below w4.heap.size w4 (w4.alloc (.cells #[.int .i64 i, .int .i64 s, .int .i64 q, .slice a xs.length c] 27)) := by go_grown
      have hsz4 := hg.size
      have ho2 := own_below hR.1 hbA
      go_wp2_with (at_builtin; refine wpList_append_own_at _ rfl _ _ 35 rfl w.heap.size 27 i0 (.agg #[.int .i64 0, .int .i64 0, .int .i64 0, .slice none 0 0]) 4 48 Tryd.underlying35 hi hz0 hz1 hz2 rfl (by decide) _ ps.length (txnCells ps) rfl ho2 ⟨w4.heap.size, 0, none⟩ 1 1 [.int .i64 i, .int .i64 s, .int .i64 q, .slice a xs.length c] rfl rfl ?c1 ?c2 ?c3 ?c4 ?c5 ?_)
      all_goals try (case c1 => intro j u hj; match j, hj with | 0, hj => simp at hj; subst hj; simp [Addr.add] | 1, hj => simp at hj; subst hj; simp [Addr.add] | 2, hj => simp at hj; subst hj; simp [Addr.add] | 3, hj => simp at hj; subst hj; simp [Addr.add])
      all_goals try (case c2 => intro u hu; simp at hu; rcases hu with rfl | rfl | rfl | rfl <;> rfl)
      all_goals try (case c3 => unfold maxLen; omega)
      all_goals try (case c4 => omega)
      all_goals try (case c5 => first | omega | (simp; omega))
      intro v' w5 hown hgrow hnil hat
      have hgo : ∀ j, (Value.slice a1 ps.length c1).ownBlock = some j → w.heap.size ≤ j := fun j hj => (ho2.lt j hj).1
      have hB5 : Below w.heap.size w4 w5 := ((Below.refl w.heap.size w4).alloc hsz4 (.cells #[.int .i64 i, .int .i64 s, .int .i64 q, .slice a xs.length c] 27)).grown hgrow (by simp; omega) hgo
      have hR5 : Hid (TxnRow w.heap.size w5 v' (ps ++ [⟨⟨i, s, q, xs⟩, a, c⟩])) := (hR.below hbA).append ⟨⟨i, s, q, xs⟩, a, c⟩ (own_below ho hbA) hpn (by simpa [TxnP.cells, TxnP.sl] using hown) hgrow (by rw [World.size_alloc]; exact hat) hnil
      replace hg := grown_low hg hB5
      replace hS := hS.low hB5 hlt.2
      have HP5 : Hid (∀ p ∈ ps ++ [(⟨⟨i, s, q, xs⟩, a, c⟩ : TxnP)], p.d.acts.length ≤ 5) := by
        intro p hp
        simp only [List.mem_append, List.mem_singleton] at hp
        rcases hp with hp | rfl
        · exact HP.out p hp
        · show xs.length ≤ 5; omega
      clear hR ho ho2 hown hgrow hat hnil hgo hB5 hbA hpn
      go_wp2
      go_roundw
      case rel => exact ⟨j - 1, ps ++ [⟨⟨i, s, q, xs⟩, a, c⟩], by go_num, by simp; omega, HP5, hR5.out, hS.mono (by simp; omega), hg⟩
      case measure => simp [intOf]; omega
    · go_wp2
      go_ret
      exact ⟨_, ps, rfl, by omega, HP.out, hR, hS.mono (by omega), hg⟩

set_option maxRecDepth 100000 in
set_option maxHeartbeats 1000000 in
theorem l2BentMany_any (B b T : Nat) (w : World) (hS : Src B w b T) (hT : T ≤ 700000) :
    Calls Tryd.prog 28 #[.pointer (some ⟨b, 0, none⟩)] w fun e w' => ∃ (v : Value) (ps : List TxnP), e = .returned v ∧ ps.length ≤ 61 ∧ (∀ p ∈ ps, p.d.acts.length ≤ 5) ∧ TxnRow w.heap.size w' v ps ∧ Src B w' b (T + 200) ∧ w.grownBy w' (some b) := by
  obtain ⟨i0, hi, hz0, hz1, hz2⟩ := info_parts infoTxn
  have hlt := hS.lt
  go_enter Tryd.func28, Tryd.ntmps28
  go_wp2_with fail
  refine (l2Many_any B b T w hS (by omega)).mono ?_
  rintro e w1 ⟨v, ps, rfl, hpl, hpa, hR, hSn, hg⟩
  replace hS := hSn
  clear hSn
  obtain ⟨a1, c1, rfl⟩ := own_shape hR.1
  have HP : Hid (∀ p ∈ ps, p.d.acts.length ≤ 5) := hpa
  clear hpa
  go_wp2_with fail
  refine (next_any B b (T + 100) 12 w1 hS (by omega) (by omega)).mono ?_
  rintro e wr ⟨r, rfl, hr, hSn, hgn⟩
  replace hR := hR.src hlt.2 hgn
  replace hg := hg.trans hgn
  replace hS := hSn
  have hsz := hg.size
  clear hgn hSn hr
  by_cases hr0 : r = 0
  · subst hr0
    go_wp2_with fail
    refine (l2Bent_any B b (T + 100 + 1) wr hS (by omega)).mono ?_
    rintro e w4 ⟨i, s, q, a, c, xs, rfl, hx5, ho, hSn, hgn⟩
    have hpn : Value.ownBlock (.slice a xs.length c) = none ∨ Value.ownBlock (.slice a xs.length c) ≠ Value.ownBlock (.slice a1 ps.length c1) := own_apart3' hR.1 ho (Nat.le_refl _)
    replace hR := hR.src hlt.2 hgn
    replace hg := hg.trans hgn
    replace hS := hSn
    replace ho := own_base ho hsz
    clear hgn hSn
    have hbA : Below w4.heap.size w4 (w4.alloc (.cells #[.int .i64 i, .int .i64 s, .int .i64 q, .slice a xs.length c] 27)) := by go_grown
    have hsz4 := hg.size
    have ho2 := own_below hR.1 hbA
    go_wp2_with (at_builtin; refine wpList_append_own_at _ rfl _ _ 35 rfl w.heap.size 27 i0 (.agg #[.int .i64 0, .int .i64 0, .int .i64 0, .slice none 0 0]) 4 48 Tryd.underlying35 hi hz0 hz1 hz2 rfl (by decide) _ ps.length (txnCells ps) rfl ho2 ⟨w4.heap.size, 0, none⟩ 1 1 [.int .i64 i, .int .i64 s, .int .i64 q, .slice a xs.length c] rfl rfl ?c1 ?c2 ?c3 ?c4 ?c5 ?_)
    all_goals try (case c1 => intro j u hj; match j, hj with | 0, hj => simp at hj; subst hj; simp [Addr.add] | 1, hj => simp at hj; subst hj; simp [Addr.add] | 2, hj => simp at hj; subst hj; simp [Addr.add] | 3, hj => simp at hj; subst hj; simp [Addr.add])
    all_goals try (case c2 => intro u hu; simp at hu; rcases hu with rfl | rfl | rfl | rfl <;> rfl)
    all_goals try (case c3 => unfold maxLen; omega)
    all_goals try (case c4 => omega)
    all_goals try (case c5 => first | omega | (simp; omega))
    intro v' w5 hown hgrow hnil hat
    have hgo : ∀ j, (Value.slice a1 ps.length c1).ownBlock = some j → w.heap.size ≤ j := fun j hj => (ho2.lt j hj).1
    have hB5 : Below w.heap.size w4 w5 := ((Below.refl w.heap.size w4).alloc hsz4 (.cells #[.int .i64 i, .int .i64 s, .int .i64 q, .slice a xs.length c] 27)).grown hgrow (by simp; omega) hgo
    have hR5 : Hid (TxnRow w.heap.size w5 v' (ps ++ [⟨⟨i, s, q, xs⟩, a, c⟩])) := (hR.below hbA).append ⟨⟨i, s, q, xs⟩, a, c⟩ (own_below ho hbA) hpn (by simpa [TxnP.cells, TxnP.sl] using hown) hgrow (by rw [World.size_alloc]; exact hat) hnil
    replace hg := grown_low hg hB5
    replace hS := hS.low hB5 hlt.2
    have HP5 : Hid (∀ p ∈ ps ++ [(⟨⟨i, s, q, xs⟩, a, c⟩ : TxnP)], p.d.acts.length ≤ 5) := by
      intro p hp
      simp only [List.mem_append, List.mem_singleton] at hp
      rcases hp with hp | rfl
      · exact HP.out p hp
      · show xs.length ≤ 5; omega
    clear hR ho ho2 hown hgrow hat hnil hgo hB5 hbA hpn
    go_wp2
    go_ret
    exact ⟨v', ps ++ [⟨⟨i, s, q, xs⟩, a, c⟩], rfl, by simp; omega, HP5.out, hR5.out, hS.mono (by omega), hg⟩
  have hr0' : (r == 0) = false := by simpa using hr0
  by_cases hr1 : r = 1
  · subst hr1
    have hby : i0.bytes * 61 ≤ 281474976710656 := by rw [hz2]; omega
    have hmx : 61 ≤ maxLen := by unfold maxLen; omega
    clear hr0 hr0' hR
    go_wp2_with (at_make; refine wpList_make_full _ rfl _ _ 35 rfl wr.heap.size 27 i0 (.agg #[.int .i64 0, .int .i64 0, .int .i64 0, .slice none 0 0]) 4 Tryd.underlying35 hi hz0 hz1 _ _ _ _ 61 rfl rfl rfl rfl hby hmx (Nat.le_refl _) ?_)
    intro w3 hown hgrow
    have hb3 : Below wr.heap.size wr w3 := (Below.refl _ _).grown hgrow (Nat.le_refl _) (by simp)
    have R : Hid (TxnRow w.heap.size w3 (.slice (some ⟨wr.heap.size, 0, none⟩) 61 61) (List.replicate 61 txnPNo)) := by
      refine ⟨by rw [← made61]; exact own_base hown hsz, fun p hp => ?_, by simp⟩
      rw [List.eq_of_mem_replicate hp]
      exact ⟨World.ownsRow_nil _ _ _ _, Or.inl rfl⟩
    replace hS := hS.below hb3
    replace hg := grown_low hg (hb3.mono hsz)
    clear hown hgrow hb3
    go_wp2
    go_ret
    exact ⟨_, List.replicate 61 txnPNo, rfl, by simp, fun p hp => by rw [List.eq_of_mem_replicate hp]; exact Nat.zero_le _, R.out, hS.mono (by omega), hg⟩
  have hr1' : (r == 1) = false := by simpa using hr1
  clear hr0 hr1
  go_wp2
  go_ret
  exact ⟨_, ps, rfl, by omega, HP.out, hR, hS.mono (by omega), hg⟩

end Go.Proofs.YtjaoggkpnjkkpaaDoor

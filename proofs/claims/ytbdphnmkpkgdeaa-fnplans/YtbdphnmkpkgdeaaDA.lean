/- Texts that stand together: data, memory, helpers. No condition. -/
import Derived.Test.YtbdphnmkpkgdeaaDraw2d
import Derived.Test.YtbdphnmkpkgdeaaCp8
import Derived.Test.YtbdphnmkpkgdeaaK8a
import Derived.Test.YtbdphnmkpkgdeaaSl8
import Derived.Laws.AppendOwnNone
namespace Go.Proofs.Ytbdphnmkpkgdeaa
open Go.RowKit Go.Maps
open Go.BigFrame
set_option linter.unusedVariables false
set_option linter.unusedSimpArgs false

def TxnP.qk (p : TxnP) : TxnQ := ⟨p.d.id, p.d.session, p.d.seq, p.sl, p.d.acts⟩
theorem row_qk (ps : List TxnP) : txnK.row (ps.map TxnP.qk) = txnCells ps := by
  induction ps with
  | nil => rfl
  | cons p r ih =>
    show txnK.cells p.qk ++ txnK.row (r.map TxnP.qk) = p.cells ++ txnCells r
    rw [ih]
    rfl
theorem TxnRow.atK {base : Nat} {w : World} {v : Value} {ps : List TxnP} (h : TxnRow base w v ps) : txnK.At w v (ps.map TxnP.qk) := by
  refine Kind.at_of_row (base := base) (e := 35) (by rw [List.length_map, row_qk]; exact h.1) (fun q hq => ?_)
  obtain ⟨p, hp, rfl⟩ := List.mem_map.1 hq
  have h1 := (h.2.1 p hp).1
  exact ⟨_, _, rfl, Lies.own h1, fun _ _ => trivial⟩
theorem TxnRow.cap {base : Nat} {w : World} {v : Value} {ps : List TxnP} (h : TxnRow base w v ps) : CapOk v := by
  rcases h.1.2 with ⟨rfl, _⟩ | ⟨g, c, cur, rfl, _, _, h1, h2, _⟩
  · exact ⟨Nat.le_refl _, by decide⟩
  · exact ⟨h1, h2⟩
theorem made41 : (madeCells #[Value.int .i64 0, .int .i64 0, .int .i64 0, .slice none 0 0] (41 * 4)).toList = txnCells (List.replicate 41 txnPNo) := by kernel_rfl

set_option maxRecDepth 100000 in
set_option maxHeartbeats 2000000 in
theorem l8Draw_any (B b T : Nat) (w : World) (hS : Src B w b T) (hT : T ≤ 800000) :
    Calls Try.prog 67 #[.pointer (some ⟨b, 0, none⟩), .int .i64 7] w fun e w' => ∃ (v : Value) (ps : List TxnP), e = .returned v ∧ ps.length ≤ 6 ∧ (∀ p ∈ ps, p.d.acts.length ≤ 5) ∧ TxnRow w.heap.size w' v ps ∧ Src B w' b (T + 100) ∧ w.grownBy w' (some b) := by
  obtain ⟨i0, hi, hz0, hz1, hz2⟩ := info_parts infoTxn
  have hlt := hS.lt
  have ho0 : (w.alloc (.cells #[] 35)).ownsRow w.heap.size 35 4 (.slice (some ⟨w.heap.size, 0, none⟩) 0 0) 0 [] := World.ownsRow_lit w #[] 0 (Nat.le_refl _) (by decide) rfl
  have hg : w.grownBy (w.alloc (.cells #[] 35)) (some b) := World.grownBy_alloc w _ _
  replace hS : Src B (w.alloc (.cells #[] 35)) b T := hS.below (by go_grown)
  go_enter Try.func67, Try.ntmps67
  go_wp2_with fail
  generalize w.alloc (.cells #[] 35) = W1 at ho0 hg hS
  refine (next_any B b T 7 W1 hS (by omega) (by omega)).mono ?_
  rintro e w3 ⟨r, rfl, hr, hSn, hgn⟩
  obtain ⟨j0, rfl⟩ := Int.eq_ofNat_of_zero_le hr.1
  have hj0 : j0 ≤ 6 := by have := hr.2.1 (by omega); omega
  have hR0 : TxnRow w.heap.size W1 (.slice (some ⟨w.heap.size, 0, none⟩) 0 0) [] := ⟨ho0, by simp, by simp⟩
  replace hR0 := hR0.src hlt.2 hgn
  replace hg := hg.trans hgn
  replace hS := hSn
  clear hgn hSn hr ho0
  go_wp2
  go_loopw [5, 6] (fun v c wr => ∃ (j : Nat) (ps : List TxnP), c = .int .i64 j ∧ j ≤ 6 ∧ j + ps.length ≤ 6 ∧ Hid (∀ p ∈ ps, p.d.acts.length ≤ 5) ∧ TxnRow w.heap.size wr v ps ∧ Src B wr b (T + 1 + 13 * (6 - j)) ∧ w.grownBy wr (some b)) (fun _ c _ => (intOf c).toNat)
  case atStart => exact ⟨j0, [], rfl, hj0, by simp; omega, by intro p hp; simp at hp, hR0, hS.mono (by omega), hg⟩
  case round =>
    clear hR0 hS hg
    obtain ⟨j, ps, rfl, hj6, hj, HP, hR, hS, hg⟩ := hrel
    have hsz := hg.size
    obtain ⟨a1, c1, rfl⟩ := own_shape hR.1
    by_cases hpos : 0 < j
    · skip
      go_wp2_with fail
      refine (l2Draw_any B b (T + 1 + 13 * (6 - j)) wr hS (by omega)).mono ?_
      rintro e w4 ⟨i, s, q, a, c, xs, rfl, hx1, hx3, ho, hSn, hgn⟩
      have hpn : Value.ownBlock (.slice a xs.length c) = none ∨ Value.ownBlock (.slice a xs.length c) ≠ Value.ownBlock (.slice a1 ps.length c1) := own_apart3' hR.1 ho (Nat.le_refl _)
      replace hR := hR.src hlt.2 hgn
      replace hg := hg.trans hgn
      replace hS := hSn
      replace ho := own_base ho hsz
      clear hgn hSn
      have hbT : Below w4.heap.size w4 (w4.alloc (.cells #[.int .i64 i, .int .i64 s, .int .i64 q, .slice a xs.length c] 35)) := by go_grown
      have hX := Blk.new w4 35 #[.int .i64 i, .int .i64 s, .int .i64 q, .slice a xs.length c]
      have hkn := l7Known_any (.slice a1 ps.length c1) (ps.map TxnP.qk) w4.heap.size 0 ⟨i, s, q, xs⟩ (.slice a xs.length c) _ (hR.below hbT).atK (box4_new w4 _ _ _ _ 35) (by rw [List.length_map]; omega)
      replace hg := grown_low hg (hbT.mono hg.size)
      replace hS := hS.below hbT
      replace hR := hR.below hbT
      replace ho := own_below ho hbT
      generalize knw ((ps.map TxnP.qk).map TxnQ.e) ⟨i, s, q, xs⟩ = K at *
      go_wp2_with fail
      generalize w4.heap.size = H4 at *
      generalize w4.alloc (.cells #[.int .i64 i, .int .i64 s, .int .i64 q, .slice a xs.length c] 35) = W4 at *
      refine hkn.mono ?_
      rintro e w6 ⟨rfl, hb6⟩
      replace hg := grown_low hg (hb6.mono hg.size)
      replace hS := hS.below hb6
      replace hR := hR.below hb6
      replace ho := own_below ho hb6
      replace hX := hX.below hb6
      clear hkn hb6 hbT
      cases K with
      | true =>
        clear ho hpn hX
        go_wp2
        go_roundw
        case rel => exact ⟨j - 1, ps, by go_num, by omega, by omega, HP, hR, hS.mono (by omega), hg⟩
        case measure => simp [intOf]; omega
      | false =>
        have x0 := hX.cell 0 _ rfl
        have x1 := hX.cell 1 _ rfl
        have x2 := hX.cell 2 _ rfl
        have x3 := hX.cell 3 _ rfl
        have hbA : Below w6.heap.size w6 (w6.alloc (.cells #[.int .i64 i, .int .i64 s, .int .i64 q, .slice a xs.length c] 35)) := by go_grown
        have hsz4 := hg.size
        have ho2 := own_below hR.1 hbA
        go_wp2_with (at_builtin; refine wpList_append_own_at _ rfl _ _ 24 rfl w.heap.size 35 i0 (.agg #[.int .i64 0, .int .i64 0, .int .i64 0, .slice none 0 0]) 4 48 Try.underlying24 hi hz0 hz1 hz2 rfl (by decide) _ ps.length (txnCells ps) rfl ho2 ⟨w6.heap.size, 0, none⟩ 1 1 [.int .i64 i, .int .i64 s, .int .i64 q, .slice a xs.length c] rfl rfl ?c1 ?c2 ?c3 ?c4 ?c5 ?_)
        all_goals try (case c1 => intro j u hj; match j, hj with | 0, hj => simp at hj; subst hj; simp [Addr.add] | 1, hj => simp at hj; subst hj; simp [Addr.add] | 2, hj => simp at hj; subst hj; simp [Addr.add] | 3, hj => simp at hj; subst hj; simp [Addr.add])
        all_goals try (case c2 => intro u hu; simp at hu; rcases hu with rfl | rfl | rfl | rfl <;> rfl)
        all_goals try (case c3 => unfold maxLen; omega)
        all_goals try (case c4 => omega)
        all_goals try (case c5 => first | omega | (simp; omega))
        intro v' w5 hown hgrow hnil hat
        have hgo : ∀ j, (Value.slice a1 ps.length c1).ownBlock = some j → w.heap.size ≤ j := fun j hj => (ho2.lt j hj).1
        have hB5 : Below w.heap.size w6 w5 := ((Below.refl w.heap.size w6).alloc hsz4 (.cells #[.int .i64 i, .int .i64 s, .int .i64 q, .slice a xs.length c] 35)).grown hgrow (by simp; omega) hgo
        have hR5 : Hid (TxnRow w.heap.size w5 v' (ps ++ [(⟨⟨i, s, q, xs⟩, a, c⟩ : TxnP)])) := (hR.below hbA).append (⟨⟨i, s, q, xs⟩, a, c⟩ : TxnP) (own_below ho hbA) hpn (by simpa [TxnP.cells, TxnP.sl] using hown) hgrow (by rw [World.size_alloc]; exact hat) hnil
        replace hg := grown_low hg hB5
        replace hS := hS.low hB5 hlt.2
        have HP5 : Hid (∀ p ∈ ps ++ [(⟨⟨i, s, q, xs⟩, a, c⟩ : TxnP)], p.d.acts.length ≤ 5) := by
          intro p hp
          simp only [List.mem_append, List.mem_singleton] at hp
          rcases hp with hp | rfl
          · exact HP.out p hp
          · show xs.length ≤ 5; omega
        clear hR ho ho2 hown hgrow hat hnil hgo hB5 hbA hpn
        clear x0 x1 x2 x3 hX
        go_wp2
        go_roundw
        case rel => exact ⟨j - 1, ps ++ [(⟨⟨i, s, q, xs⟩, a, c⟩ : TxnP)], by go_num, by omega, by simp; omega, HP5, hR5.out, hS.mono (by omega), hg⟩
        case measure => simp [intOf]; omega
    · go_wp2
      go_ret
      exact ⟨_, ps, rfl, by omega, HP.out, hR, hS.mono (by omega), hg⟩

set_option maxRecDepth 100000 in
set_option maxHeartbeats 1000000 in
theorem l8Bent_any (B b T : Nat) (w : World) (hS : Src B w b T) (hT : T ≤ 700000) :
    Calls Try.prog 44 #[.pointer (some ⟨b, 0, none⟩)] w fun e w' => ∃ (v : Value) (ps : List TxnP), e = .returned v ∧ ps.length ≤ 41 ∧ (∀ p ∈ ps, p.d.acts.length ≤ 5) ∧ TxnRow w.heap.size w' v ps ∧ Src B w' b (T + 200) ∧ w.grownBy w' (some b) := by
  obtain ⟨i0, hi, hz0, hz1, hz2⟩ := info_parts infoTxn
  have hlt := hS.lt
  go_enter Try.func44, Try.ntmps44
  go_wp2_with fail
  refine (l8Draw_any B b T w hS (by omega)).mono ?_
  rintro e w1 ⟨v, ps, rfl, hpl, hpa, hR, hSn, hg⟩
  replace hS := hSn
  clear hSn
  obtain ⟨a1, c1, rfl⟩ := own_shape hR.1
  have HP : Hid (∀ p ∈ ps, p.d.acts.length ≤ 5) := hpa
  clear hpa
  go_wp2_with fail
  refine (next_any B b (T + 100) 12 w1 hS (by omega) (by omega)).mono ?_
  rintro e wr ⟨r, rfl, hr, hSn, hgn⟩
  replace hR := hR.src hlt.2 hgn
  replace hg := hg.trans hgn
  replace hS := hSn
  have hsz := hg.size
  clear hgn hSn hr
  by_cases hr0 : r = 0
  · subst hr0
    go_wp2_with fail
    refine (l2Bent_any B b (T + 100 + 1) wr hS (by omega)).mono ?_
    rintro e w4 ⟨i, s, q, a, c, xs, rfl, hx5, ho, hSn, hgn⟩
    have hpn : Value.ownBlock (.slice a xs.length c) = none ∨ Value.ownBlock (.slice a xs.length c) ≠ Value.ownBlock (.slice a1 ps.length c1) := own_apart3' hR.1 ho (Nat.le_refl _)
    replace hR := hR.src hlt.2 hgn
    replace hg := hg.trans hgn
    replace hS := hSn
    replace ho := own_base ho hsz
    clear hgn hSn
    have hbA : Below w4.heap.size w4 (w4.alloc (.cells #[.int .i64 i, .int .i64 s, .int .i64 q, .slice a xs.length c] 35)) := by go_grown
    have hsz4 := hg.size
    have ho2 := own_below hR.1 hbA
    go_wp2_with (at_builtin; refine wpList_append_own_at _ rfl _ _ 24 rfl w.heap.size 35 i0 (.agg #[.int .i64 0, .int .i64 0, .int .i64 0, .slice none 0 0]) 4 48 Try.underlying24 hi hz0 hz1 hz2 rfl (by decide) _ ps.length (txnCells ps) rfl ho2 ⟨w4.heap.size, 0, none⟩ 1 1 [.int .i64 i, .int .i64 s, .int .i64 q, .slice a xs.length c] rfl rfl ?c1 ?c2 ?c3 ?c4 ?c5 ?_)
    all_goals try (case c1 => intro j u hj; match j, hj with | 0, hj => simp at hj; subst hj; simp [Addr.add] | 1, hj => simp at hj; subst hj; simp [Addr.add] | 2, hj => simp at hj; subst hj; simp [Addr.add] | 3, hj => simp at hj; subst hj; simp [Addr.add])
    all_goals try (case c2 => intro u hu; simp at hu; rcases hu with rfl | rfl | rfl | rfl <;> rfl)
    all_goals try (case c3 => unfold maxLen; omega)
    all_goals try (case c4 => omega)
    all_goals try (case c5 => first | omega | (simp; omega))
    intro v' w5 hown hgrow hnil hat
    have hgo : ∀ j, (Value.slice a1 ps.length c1).ownBlock = some j → w.heap.size ≤ j := fun j hj => (ho2.lt j hj).1
    have hB5 : Below w.heap.size w4 w5 := ((Below.refl w.heap.size w4).alloc hsz4 (.cells #[.int .i64 i, .int .i64 s, .int .i64 q, .slice a xs.length c] 35)).grown hgrow (by simp; omega) hgo
    have hR5 : Hid (TxnRow w.heap.size w5 v' (ps ++ [⟨⟨i, s, q, xs⟩, a, c⟩])) := (hR.below hbA).append ⟨⟨i, s, q, xs⟩, a, c⟩ (own_below ho hbA) hpn (by simpa [TxnP.cells, TxnP.sl] using hown) hgrow (by rw [World.size_alloc]; exact hat) hnil
    replace hg := grown_low hg hB5
    replace hS := hS.low hB5 hlt.2
    have HP5 : Hid (∀ p ∈ ps ++ [(⟨⟨i, s, q, xs⟩, a, c⟩ : TxnP)], p.d.acts.length ≤ 5) := by
      intro p hp
      simp only [List.mem_append, List.mem_singleton] at hp
      rcases hp with hp | rfl
      · exact HP.out p hp
      · show xs.length ≤ 5; omega
    clear hR ho ho2 hown hgrow hat hnil hgo hB5 hbA hpn
    go_wp2
    go_ret
    exact ⟨v', ps ++ [⟨⟨i, s, q, xs⟩, a, c⟩], rfl, by simp; omega, HP5.out, hR5.out, hS.mono (by omega), hg⟩
  have hr0' : (r == 0) = false := by simpa using hr0
  by_cases hr1 : r = 1
  · subst hr1
    have hby : i0.bytes * 41 ≤ 281474976710656 := by rw [hz2]; omega
    have hmx : 41 ≤ maxLen := by unfold maxLen; omega
    clear hr0 hr0' hR
    go_wp2_with (at_make; refine wpList_make_full _ rfl _ _ 24 rfl wr.heap.size 35 i0 (.agg #[.int .i64 0, .int .i64 0, .int .i64 0, .slice none 0 0]) 4 Try.underlying24 hi hz0 hz1 _ _ _ _ 41 rfl rfl rfl rfl hby hmx (Nat.le_refl _) ?_)
    intro w3 hown hgrow
    have hb3 : Below wr.heap.size wr w3 := (Below.refl _ _).grown hgrow (Nat.le_refl _) (by simp)
    have R : Hid (TxnRow w.heap.size w3 (.slice (some ⟨wr.heap.size, 0, none⟩) 41 41) (List.replicate 41 txnPNo)) := by
      refine ⟨by rw [← made41]; exact own_base hown hsz, fun p hp => ?_, by simp⟩
      rw [List.eq_of_mem_replicate hp]
      exact ⟨World.ownsRow_nil _ _ _ _, Or.inl rfl⟩
    replace hS := hS.below hb3
    replace hg := grown_low hg (hb3.mono hsz)
    clear hown hgrow hb3
    go_wp2
    go_ret
    exact ⟨_, List.replicate 41 txnPNo, rfl, by simp, fun p hp => by rw [List.eq_of_mem_replicate hp]; exact Nat.zero_le _, R.out, hS.mono (by omega), hg⟩
  have hr1' : (r == 1) = false := by simpa using hr1
  by_cases hr2 : r = 2
  · subst hr2
    clear hr0 hr1 hr0' hr1'
    cases ps with
    | nil =>
      go_wp2
      go_ret
      exact ⟨_, [], rfl, by simp, HP.out, hR, hS.mono (by omega), hg⟩
    | cons p0 rest =>
      generalize hps : p0 :: rest = ps at *
      have hlen : 0 < ps.length := by rw [← hps]; simp
      have hleni : (0 : Int) < (ps.length : Int) := by omega
      obtain ⟨hc, ho, hpn, hx5⟩ : Lies wr a1 (txnCells ps) ∧ wr.ownsRow w.heap.size 90 3 p0.sl p0.d.acts.length (actCells p0.d.acts) ∧ (p0.sl.ownBlock = none ∨ p0.sl.ownBlock ≠ Value.ownBlock (.slice a1 ps.length c1)) ∧ p0.d.acts.length ≤ 5 := ⟨Lies.own hR.1, (hR.2.1 p0 (by rw [← hps]; simp)).1, (hR.2.1 p0 (by rw [← hps]; simp)).2, HP.out p0 (by rw [← hps]; simp)⟩
      have hat0 := hR.atK
      obtain ⟨bb, off, rfl, hbs, hc4, _⟩ := hat0.cell (by decide) 0 (by rw [List.length_map]; exact hlen)
      have hc' : ∀ j x, (txnK.cells ((ps.map TxnP.qk)[0]'(by rw [List.length_map]; exact hlen)))[j]? = some x → wr.cell? ⟨bb, off + 0 * 4 + j, none⟩ = some x := hc4
      have e0 : (ps.map TxnP.qk)[0]'(by rw [List.length_map]; exact hlen) = p0.qk := by subst hps; rfl
      rw [e0] at hc'
      have c0' := hc' 0 (.int .i64 p0.d.id) rfl
      have c1' := hc' 1 (.int .i64 p0.d.session) rfl
      have c2' := hc' 2 (.int .i64 p0.d.seq) rfl
      have c3' := hc' 3 p0.sl rfl
      simp only [Nat.zero_mul, Nat.add_zero] at c0' c1' c2' c3'
      clear hc4 hc' e0 hat0 hc hps
      obtain ⟨⟨i, s, q, xs⟩, a, c⟩ := p0
      replace ho : wr.ownsRow w.heap.size 90 3 (.slice a xs.length c) xs.length (actCells xs) := ho
      replace hpn : Value.ownBlock (.slice a xs.length c) = none ∨ Value.ownBlock (.slice a xs.length c) ≠ Value.ownBlock (.slice (some ⟨bb, off, none⟩) ps.length c1) := hpn
      replace hx5 : xs.length ≤ 5 := hx5
      replace c3' : wr.cell? ⟨bb, off + 3, none⟩ = some (.slice a xs.length c) := c3'
      dsimp only at c0' c1' c2'
      have hbA : Below wr.heap.size wr (wr.alloc (.cells #[.int .i64 i, .int .i64 s, .int .i64 q, .slice a xs.length c] 35)) := by go_grown
      have hsz4 := hg.size
      have ho2 := own_below hR.1 hbA
      go_wp2_with (at_builtin; refine wpList_append_own_at _ rfl _ _ 24 rfl w.heap.size 35 i0 (.agg #[.int .i64 0, .int .i64 0, .int .i64 0, .slice none 0 0]) 4 48 Try.underlying24 hi hz0 hz1 hz2 rfl (by decide) _ ps.length (txnCells ps) rfl ho2 ⟨wr.heap.size, 0, none⟩ 1 1 [.int .i64 i, .int .i64 s, .int .i64 q, .slice a xs.length c] rfl rfl ?c1 ?c2 ?c3 ?c4 ?c5 ?_)
      all_goals try (case c1 => intro j u hj; match j, hj with | 0, hj => simp at hj; subst hj; simp [Addr.add] | 1, hj => simp at hj; subst hj; simp [Addr.add] | 2, hj => simp at hj; subst hj; simp [Addr.add] | 3, hj => simp at hj; subst hj; simp [Addr.add])
      all_goals try (case c2 => intro u hu; simp at hu; rcases hu with rfl | rfl | rfl | rfl <;> rfl)
      all_goals try (case c3 => unfold maxLen; omega)
      all_goals try (case c4 => omega)
      all_goals try (case c5 => first | omega | (simp; omega))
      intro v' w5 hown hgrow hnil hat
      have hgo : ∀ j, (Value.slice (some ⟨bb, off, none⟩) ps.length c1).ownBlock = some j → w.heap.size ≤ j := fun j hj => (ho2.lt j hj).1
      have hB5 : Below w.heap.size wr w5 := ((Below.refl w.heap.size wr).alloc hsz4 (.cells #[.int .i64 i, .int .i64 s, .int .i64 q, .slice a xs.length c] 35)).grown hgrow (by simp; omega) hgo
      have hR5 : Hid (TxnRow w.heap.size w5 v' (ps ++ [(⟨⟨i, s, q, xs⟩, a, c⟩ : TxnP)])) := (hR.below hbA).append (⟨⟨i, s, q, xs⟩, a, c⟩ : TxnP) (own_below ho hbA) hpn (by simpa [TxnP.cells, TxnP.sl] using hown) hgrow (by rw [World.size_alloc]; exact hat) hnil
      replace hg := grown_low hg hB5
      replace hS := hS.low hB5 hlt.2
      have HP5 : Hid (∀ p ∈ ps ++ [(⟨⟨i, s, q, xs⟩, a, c⟩ : TxnP)], p.d.acts.length ≤ 5) := by
        intro p hp
        simp only [List.mem_append, List.mem_singleton] at hp
        rcases hp with hp | rfl
        · exact HP.out p hp
        · show xs.length ≤ 5; omega
      clear hR ho ho2 hown hgrow hat hnil hgo hB5 hbA hpn
      clear c0' c1' c2' c3'
      go_wp2
      go_ret
      exact ⟨v', _, rfl, by simp; omega, HP5.out, hR5.out, hS.mono (by omega), hg⟩
  have hr2' : (r == 2) = false := by simpa using hr2
  clear hr0 hr1 hr2
  go_wp2
  go_ret
  exact ⟨_, ps, rfl, by omega, HP.out, hR, hS.mono (by omega), hg⟩

end Go.Proofs.Ytbdphnmkpkgdeaa

namespace Go.Proofs.Ytbdphnmkpkgdeaa
open Go.RowKit Go.Maps
open Go.BigFrame
set_option linter.unusedVariables false
set_option linter.unusedSimpArgs false

set_option maxHeartbeats 1000000 in
theorem chance_any (B b T : Nat) (n : Int) (w : World) (hS : Src B w b T) (hT : T ≤ 1099511627776) (hn : n ≤ 1099511627776) :
    Calls Try.prog 64 #[.pointer (some ⟨b, 0, none⟩), .int .i64 n] w fun e w' => ∃ t : Bool, e = .returned (.bool t) ∧ Src B w' b (T + 1) ∧ w.grownBy w' (some b) := by
  go_enter Try.func64, Try.ntmps64
  go_wp2_with fail
  refine (next_any B b T n w hS hT hn).mono ?_
  rintro e w1 ⟨r, rfl, hr, hS1, hg⟩
  go_wp2
  go_ret
  exact ⟨_, rfl, hS1, hg⟩

set_option maxRecDepth 100000 in
set_option maxHeartbeats 1000000 in
theorem l2CopyS_any (i s q : Int) (b off cap : Nat) (zs : List ActD) (w : World) (h : ActRow w (some ⟨b, off, none⟩) zs) (hl : zs.length ≤ 1048576) :
    Calls Try.prog 70 #[.agg #[.int .i64 i, .int .i64 s, .int .i64 q, .slice (some ⟨b, off, none⟩) zs.length cap]] w fun e w' => ∃ a c, e = .returned (.agg #[.int .i64 i, .int .i64 s, .int .i64 q, .slice a zs.length c]) ∧
      w'.ownsRow w.heap.size 90 3 (.slice a zs.length c) zs.length (actCells zs) ∧ Below w.heap.size w w' := by
  obtain ⟨i0, hi, hz0, hz1, hz2⟩ := info_parts infoAct
  have hs := lies_src (Lies.below h (w' := ((w.alloc (.cells #[.int .i64 i, .int .i64 s, .int .i64 q, .slice (some ⟨b, off, none⟩) zs.length cap] 35)).alloc (.cells #[.int .i64 0, .int .i64 0, .int .i64 0, .slice none 0 0] 35)).alloc (.cells #[] 90)) (by go_grown))
  have hcl := actCells_length zs
  have ho := World.ownsRow_lit (e := 90) (size := 3) ((w.alloc (.cells #[.int .i64 i, .int .i64 s, .int .i64 q, .slice (some ⟨b, off, none⟩) zs.length cap] 35)).alloc (.cells #[.int .i64 0, .int .i64 0, .int .i64 0, .slice none 0 0] 35)) #[] 0 (Nat.le_refl _) (by decide) rfl
  have hb1 : Below w.heap.size w (((w.alloc (.cells #[.int .i64 i, .int .i64 s, .int .i64 q, .slice (some ⟨b, off, none⟩) zs.length cap] 35)).alloc (.cells #[.int .i64 0, .int .i64 0, .int .i64 0, .slice none 0 0] 35)).alloc (.cells #[] 90)) := by go_grown
  have B1 := (Blk.new w 35 #[.int .i64 i, .int .i64 s, .int .i64 q, .slice (some ⟨b, off, none⟩) zs.length cap]).below (w' := ((w.alloc (.cells #[.int .i64 i, .int .i64 s, .int .i64 q, .slice (some ⟨b, off, none⟩) zs.length cap] 35)).alloc (.cells #[.int .i64 0, .int .i64 0, .int .i64 0, .slice none 0 0] 35)).alloc (.cells #[] 90)) (by go_grown)
  have B2 := (Blk.new (w.alloc (.cells #[.int .i64 i, .int .i64 s, .int .i64 q, .slice (some ⟨b, off, none⟩) zs.length cap] 35)) 35 #[.int .i64 0, .int .i64 0, .int .i64 0, .slice none 0 0]).below (w' := ((w.alloc (.cells #[.int .i64 i, .int .i64 s, .int .i64 q, .slice (some ⟨b, off, none⟩) zs.length cap] 35)).alloc (.cells #[.int .i64 0, .int .i64 0, .int .i64 0, .slice none 0 0] 35)).alloc (.cells #[] 90)) (by go_grown)
  have HS : Hid (∀ j u, (actCells zs)[j]? = some u → _) := hs
  clear hs
  simp only [World.size_alloc] at B2 ho
  go_enter Try.func70, Try.ntmps70
  go_wp2_with (at_builtin; refine wpList_append_own _ rfl _ _ 33 rfl (w.heap.size + 1 + 1) 90 i0 (.agg #[.int .i64 0, .int .i64 0, .int .i64 0]) 3 24 Try.underlying33 hi hz0 hz1 hz2 rfl (by decide) _ 0 [] rfl ho ⟨b, off, none⟩ zs.length cap (actCells zs) rfl hcl HS.out ?c2 ?c3 ?c4 ?c5 ?_)
  all_goals try (case c2 => exact acts_oneCell zs)
  all_goals try (case c3 => unfold maxLen; omega)
  all_goals try (case c4 => omega)
  all_goals try (case c5 => simp)
  intro v' w2 hown hgrow _
  obtain ⟨a2, c2, rfl⟩ := own_shape hown
  replace B1 := B1.grown hgrow (by simp [Value.ownBlock] <;> omega)
  replace B2 := B2.grown hgrow (by simp [Value.ownBlock] <;> omega)
  have hb2 : Below w.heap.size w w2 := hb1.grown hgrow (by simp; omega) (fun k hk => by simp [Value.ownBlock] at hk; omega)
  have hlt2 := B2.lt
  have p0 := B1.cell 0 _ rfl
  have p1 := B1.cell 1 _ rfl
  have p2 := B1.cell 2 _ rfl
  have p3 := B1.cell 3 _ rfl
  have pf := B1.frozen 3
  have q0 := B2.cell 0 _ rfl
  have q1 := B2.cell 1 _ rfl
  have q2 := B2.cell 2 _ rfl
  have q3 := B2.cell 3 _ rfl
  have f0 := B2.frozen 0
  have f1 := B2.frozen 1
  have f2 := B2.frozen 2
  have f3 := B2.frozen 3
  try simp only [Nat.zero_add] at hown
  clear B1 B2 hgrow HS ho hb1
  go_wp2
  refine bodyPost_ret (v := .agg #[.int .i64 i, .int .i64 s, .int .i64 q, .slice a2 zs.length c2]) (by simp [results, Try.results70, go_sem, q0, q1, q2, q3]) rfl ⟨_, _, rfl, ?_, ?_⟩
  · refine own_base (base := w.heap.size + 1 + 1) ?_ (by omega)
    repeat' (refine ownsRow_setCell_below ?_ (by dsimp only; omega) _)
    simpa using hown
  · repeat' (refine Below.setCell ?_ (by dsimp only; omega) _)
    exact hb2

set_option maxRecDepth 100000 in
set_option maxHeartbeats 1000000 in
theorem l2CopyN_any (i s q : Int) (w : World) :
    Calls Try.prog 70 #[.agg #[.int .i64 i, .int .i64 s, .int .i64 q, .slice none 0 0]] w fun e w' => ∃ a c, e = .returned (.agg #[.int .i64 i, .int .i64 s, .int .i64 q, .slice a 0 c]) ∧
      w'.ownsRow w.heap.size 90 3 (.slice a 0 c) 0 (actCells []) ∧ Below w.heap.size w w' := by
  obtain ⟨i0, hi, hz0, hz1, hz2⟩ := info_parts infoAct
  have ho := World.ownsRow_lit (e := 90) (size := 3) ((w.alloc (.cells #[.int .i64 i, .int .i64 s, .int .i64 q, .slice none 0 0] 35)).alloc (.cells #[.int .i64 0, .int .i64 0, .int .i64 0, .slice none 0 0] 35)) #[] 0 (Nat.le_refl _) (by decide) rfl
  have hb1 : Below w.heap.size w (((w.alloc (.cells #[.int .i64 i, .int .i64 s, .int .i64 q, .slice none 0 0] 35)).alloc (.cells #[.int .i64 0, .int .i64 0, .int .i64 0, .slice none 0 0] 35)).alloc (.cells #[] 90)) := by go_grown
  have B1 := (Blk.new w 35 #[.int .i64 i, .int .i64 s, .int .i64 q, .slice none 0 0]).below (w' := ((w.alloc (.cells #[.int .i64 i, .int .i64 s, .int .i64 q, .slice none 0 0] 35)).alloc (.cells #[.int .i64 0, .int .i64 0, .int .i64 0, .slice none 0 0] 35)).alloc (.cells #[] 90)) (by go_grown)
  have B2 := (Blk.new (w.alloc (.cells #[.int .i64 i, .int .i64 s, .int .i64 q, .slice none 0 0] 35)) 35 #[.int .i64 0, .int .i64 0, .int .i64 0, .slice none 0 0]).below (w' := ((w.alloc (.cells #[.int .i64 i, .int .i64 s, .int .i64 q, .slice none 0 0] 35)).alloc (.cells #[.int .i64 0, .int .i64 0, .int .i64 0, .slice none 0 0] 35)).alloc (.cells #[] 90)) (by go_grown)
  simp only [World.size_alloc] at B2 ho
  go_enter Try.func70, Try.ntmps70
  go_wp2_with (at_builtin; refine wpList_append_own_none rfl _ _ 33 rfl (w.heap.size + 1 + 1) 90 i0 3 Try.underlying33 hi _ 0 [] rfl ho rfl ?_)
  have hlt2 := B2.lt
  have p0 := B1.cell 0 _ rfl
  have p1 := B1.cell 1 _ rfl
  have p2 := B1.cell 2 _ rfl
  have p3 := B1.cell 3 _ rfl
  have pf := B1.frozen 3
  have q0 := B2.cell 0 _ rfl
  have q1 := B2.cell 1 _ rfl
  have q2 := B2.cell 2 _ rfl
  have q3 := B2.cell 3 _ rfl
  have f0 := B2.frozen 0
  have f1 := B2.frozen 1
  have f2 := B2.frozen 2
  have f3 := B2.frozen 3
  clear B1 B2
  go_wp2
  refine bodyPost_ret (v := .agg #[.int .i64 i, .int .i64 s, .int .i64 q, .slice (some ⟨w.heap.size + 1 + 1, 0, none⟩) 0 0]) (by simp [results, Try.results70, go_sem]) rfl ⟨_, _, rfl, ?_, ?_⟩
  · have h9 := World.ownsRow_lit (e := 90) (size := 3) ((w.alloc (.cells #[.int .i64 i, .int .i64 s, .int .i64 q, .slice (some ⟨w.heap.size + 1 + 1, 0, none⟩) 0 0] 35)).alloc (.cells #[.int .i64 i, .int .i64 s, .int .i64 q, .slice (some ⟨w.heap.size + 1 + 1, 0, none⟩) 0 0] 35)) #[] 0 (Nat.le_refl _) (by decide) rfl
    simp only [World.size_alloc] at h9
    exact own_base h9 (by omega)
  · go_grown

/-- A list of transactions whose acts begin somewhere, or are none. -/
def NiceQ (p : TxnQ) : Prop := (p.va = .slice none 0 0 ∧ p.acts = []) ∨ ∃ b off c, p.va = .slice (some ⟨b, off, none⟩) p.acts.length c
theorem TxnRow.nice {base : Nat} {w : World} {v : Value} {ps : List TxnP} (h : TxnRow base w v ps) : ∀ q ∈ ps.map TxnP.qk, NiceQ q := by
  intro q hq
  obtain ⟨p, hp, rfl⟩ := List.mem_map.1 hq
  have h1 := (h.2.1 p hp).1
  have hl : p.sl = .slice p.a p.d.acts.length p.cap := rfl
  rcases h1.2 with ⟨e, h0⟩ | ⟨g, c, cur, e, _⟩
  · left
    refine ⟨e, ?_⟩
    rw [hl] at e
    simp only [Value.slice.injEq] at e
    exact List.length_eq_zero_iff.1 e.2.1
  · right
    exact ⟨g, 0, c, e⟩

set_option maxHeartbeats 2000000 in
theorem l2CopyG_any (p : TxnQ) (w : World) (h : txnK.rd w p) (hN : NiceQ p) (hl : p.acts.length ≤ 1048576) :
    Calls Try.prog 70 #[.agg #[.int .i64 p.i, .int .i64 p.s, .int .i64 p.q, p.va]] w fun e w' => ∃ a c, e = .returned (.agg #[.int .i64 p.i, .int .i64 p.s, .int .i64 p.q, .slice a p.acts.length c]) ∧
      w'.ownsRow w.heap.size 90 3 (.slice a p.acts.length c) p.acts.length (actCells p.acts) ∧ Below w.heap.size w w' := by
  obtain ⟨i, s, q, va, acts⟩ := p
  dsimp only
  rcases hN with ⟨e1, e2⟩ | ⟨b, off, c, e1⟩
  · dsimp only at e1 e2
    subst e1 e2
    exact l2CopyN_any i s q w
  · dsimp only at e1
    subst e1
    have hT : actK.At w (.slice (some ⟨b, off, none⟩) acts.length c) acts := h
    exact l2CopyS_any i s q b off c acts w (actK_at hT).2 hl

set_option maxRecDepth 100000 in
set_option maxHeartbeats 4000000 in
theorem l2CopyAllG_any (v : Value) (qs : List TxnQ) (w : World) (h : txnK.At w v qs) (hN : ∀ q ∈ qs, NiceQ q) (h5 : ∀ q ∈ qs, q.acts.length ≤ 5) (hl : qs.length ≤ 41) :
    Calls Try.prog 62 #[v] w fun e w' => ∃ (v' : Value) (ps : List TxnP), e = .returned v' ∧ ps.length ≤ 41 ∧ (∀ p ∈ ps, p.d.acts.length ≤ 5) ∧ TxnRow w.heap.size w' v' ps ∧ Below w.heap.size w w' := by
  obtain ⟨av, cap, rfl⟩ := h.shape
  obtain ⟨i0, hi, hz0, hz1, hz2⟩ := info_parts infoTxn
  have ho0 : (w.alloc (.cells #[] 35)).ownsRow w.heap.size 35 4 (.slice (some ⟨w.heap.size, 0, none⟩) 0 0) 0 [] := World.ownsRow_lit w #[] 0 (Nat.le_refl _) (by decide) rfl
  have hR0 : TxnRow w.heap.size (w.alloc (.cells #[] 35)) (.slice (some ⟨w.heap.size, 0, none⟩) 0 0) [] := ⟨ho0, by simp, by simp⟩
  have hb0 : Below w.heap.size w (w.alloc (.cells #[] 35)) := by go_grown
  clear ho0
  go_enter Try.func62, Try.ntmps62
  go_wp2
  go_loopw [3, 4] (fun v j wr => ∃ (k : Nat) (ps : List TxnP), k ≤ qs.length ∧ j = .int .i64 k ∧ ps.length = k ∧ Hid (∀ p ∈ ps, p.d.acts.length ≤ 5) ∧ TxnRow w.heap.size wr v ps ∧ Below w.heap.size w wr) (fun _ j _ => qs.length - (intOf j).toNat)
  case atStart => exact ⟨0, [], Nat.zero_le _, rfl, rfl, by intro p hp; simp at hp, hR0, hb0⟩
  case round =>
    clear hR0 hb0
    obtain ⟨k, ps, hk, rfl, hpk, HP, hR, hb⟩ := hrel
    have HPK : Hid (ps.length = k) := hpk
    have hpk' : ps.length ≤ 41 := by omega
    clear hpk
    obtain ⟨a1, c1, rfl⟩ := own_shape hR.1
    by_cases hlt : k < qs.length
    · obtain ⟨b, off, rfl, hbs, hcm, hrd⟩ := (h.below hb).cell (by decide) k hlt
      have hc' : ∀ j x, (txnK.cells qs[k])[j]? = some x → wr.cell? ⟨b, off + k * 4 + j, none⟩ = some x := hcm
      have c0 := hc' 0 (.int .i64 qs[k].i) rfl
      have c1' := hc' 1 (.int .i64 qs[k].s) rfl
      have c2 := hc' 2 (.int .i64 qs[k].q) rfl
      have c3 := hc' 3 (qs[k].va) rfl
      rw [Nat.add_zero] at c0
      have hx5 := h5 _ (List.getElem_mem hlt)
      have hcl := l2CopyG_any qs[k] wr hrd (hN _ (List.getElem_mem hlt)) (by omega)
      clear hcm hc'
      generalize qs[k] = p at *
      obtain ⟨i, s, q, va, xs⟩ := p
      replace hrd : actK.At wr va xs := hrd
      obtain ⟨aa, ac, rfl⟩ := hrd.shape
      dsimp only at c0 c1' c2 c3 hx5 hcl
      have hlti : (k : Int) < (qs.length : Int) := by omega
      clear hrd
      go_wp2_with fail
      clear c0 c1' c2 c3
      refine hcl.mono ?_
      rintro e w4 ⟨a, c, rfl, ho, hb4⟩
      have hpn : Value.ownBlock (.slice a xs.length c) = none ∨ Value.ownBlock (.slice a xs.length c) ≠ Value.ownBlock (.slice a1 ps.length c1) := own_apart3' hR.1 ho (Nat.le_refl _)
      replace hR := hR.below hb4
      replace ho := own_base ho hb.size
      replace hb := hb.trans (hb4.mono hb.size)
      clear hcl hb4
      have hsz4 := hb.size
      have hbA : Below w4.heap.size w4 (w4.alloc (.cells #[.int .i64 i, .int .i64 s, .int .i64 q, .slice a xs.length c] 35)) := by go_grown
      have ho2 := own_below hR.1 hbA
      go_wp2_with (at_builtin; refine wpList_append_own_at _ rfl _ _ 24 rfl w.heap.size 35 i0 (.agg #[.int .i64 0, .int .i64 0, .int .i64 0, .slice none 0 0]) 4 48 Try.underlying24 hi hz0 hz1 hz2 rfl (by decide) _ ps.length (txnCells ps) rfl ho2 ⟨w4.heap.size, 0, none⟩ 1 1 [.int .i64 i, .int .i64 s, .int .i64 q, .slice a xs.length c] rfl rfl ?c1 ?c2 ?c3 ?c4 ?c5 ?_)
      all_goals try (case c1 => intro j u hj; match j, hj with | 0, hj => simp at hj; subst hj; simp [Addr.add] | 1, hj => simp at hj; subst hj; simp [Addr.add] | 2, hj => simp at hj; subst hj; simp [Addr.add] | 3, hj => simp at hj; subst hj; simp [Addr.add])
      all_goals try (case c2 => intro u hu; simp at hu; rcases hu with rfl | rfl | rfl | rfl <;> rfl)
      all_goals try (case c3 => unfold maxLen; omega)
      all_goals try (case c4 => omega)
      all_goals try (case c5 => first | omega | (simp; omega))
      intro v' w5 hown hgrow hnil hat
      have hgo : ∀ j, (Value.slice a1 ps.length c1).ownBlock = some j → w.heap.size ≤ j := fun j hj => (ho2.lt j hj).1
      have hB5 : Below w.heap.size w4 w5 := ((Below.refl w.heap.size w4).alloc hsz4 (.cells #[.int .i64 i, .int .i64 s, .int .i64 q, .slice a xs.length c] 35)).grown hgrow (by simp; omega) hgo
      have hR5 : Hid (TxnRow w.heap.size w5 v' (ps ++ [(⟨⟨i, s, q, xs⟩, a, c⟩ : TxnP)])) := (hR.below hbA).append (⟨⟨i, s, q, xs⟩, a, c⟩ : TxnP) (own_below ho hbA) hpn (by simpa [TxnP.cells, TxnP.sl] using hown) hgrow (by rw [World.size_alloc]; exact hat) hnil
      replace hb := hb.trans hB5
      have HP5 : Hid (∀ p ∈ ps ++ [(⟨⟨i, s, q, xs⟩, a, c⟩ : TxnP)], p.d.acts.length ≤ 5) := by
        intro p hp
        simp only [List.mem_append, List.mem_singleton] at hp
        rcases hp with hp | rfl
        · exact HP.out p hp
        · show xs.length ≤ 5; omega
      clear hR ho ho2 hown hgrow hat hnil hgo hB5 hbA hpn
      go_wp2
      go_roundw
      case rel => exact ⟨k + 1, _, by omega, by go_num, by have := HPK.out; simp; omega, HP5, hR5.out, hb⟩
      case measure => simp [intOf]; omega
    · have hlti : ¬ (k : Int) < (qs.length : Int) := by omega
      go_wp2
      go_ret
      first | exact ⟨_, ps, rfl, by omega, HP.out, hR, hb⟩ | exact ⟨_, rfl, ps, by omega, HP.out, hR, hb⟩

end Go.Proofs.Ytbdphnmkpkgdeaa

namespace Go.Proofs.Ytbdphnmkpkgdeaa
open Go.RowKit Go.Maps
open Go.BigFrame
set_option linter.unusedVariables false
set_option linter.unusedSimpArgs false

theorem qk_acts {ps : List TxnP} (h : ∀ p ∈ ps, p.d.acts.length ≤ 5) : ∀ q ∈ ps.map TxnP.qk, q.acts.length ≤ 5 := by
  intro q hq
  obtain ⟨p, hp, rfl⟩ := List.mem_map.1 hq
  exact h p hp
theorem TxnRow.base {base base' : Nat} {w : World} {v : Value} {ps : List TxnP} (h : TxnRow base w v ps) (hb : base' ≤ base) : TxnRow base' w v ps :=
  ⟨own_base h.1 hb, fun p hp => ⟨own_base (h.2.1 p hp).1 hb, (h.2.1 p hp).2⟩, h.2.2⟩
theorem TxnRow.ownK {base : Nat} {w : World} {v : Value} {ps : List TxnP} (h : TxnRow base w v ps) : txnK.Own w v (ps.map TxnP.qk) := by
  refine ⟨?_, fun q hq => ?_⟩
  · rw [List.length_map, row_qk]
    exact own_base h.1 (Nat.zero_le _)
  · obtain ⟨p, hp, rfl⟩ := List.mem_map.1 hq
    exact ⟨own_base (h.2.1 p hp).1 (Nat.zero_le _), fun _ _ => trivial⟩
theorem TxnRow.lowfp {base : Nat} {w : World} {v : Value} {ps : List TxnP} (h : TxnRow base w v ps) : ∀ k ∈ txnK.fp v (ps.map TxnP.qk), base ≤ k := by
  have key : ∀ (e s n : Nat) (u : Value) (xs : List Value), w.ownsRow base e s u n xs → ∀ k ∈ blk u, base ≤ k := by
    intro e s n u xs hu k hk
    unfold blk at hk
    cases hb : u.ownBlock with
    | none => rw [hb] at hk; simp at hk
    | some x =>
      rw [hb] at hk
      simp at hk
      rw [hk]
      exact (hu.lt x hb).1
  intro k hk
  rcases List.mem_append.1 hk with hk | hk
  · exact key _ _ _ _ _ h.1 k hk
  · obtain ⟨q, hq, hk⟩ := List.mem_flatMap.1 hk
    obtain ⟨p, hp, rfl⟩ := List.mem_map.1 hq
    have hk2 : k ∈ actK.fp p.sl p.d.acts := hk
    rw [actK_fp] at hk2
    exact key _ _ _ _ _ (h.2.1 p hp).1 k hk2
/-- The first two change their places. -/
theorem row_swap {base g n cap : Nat} {w : World} {p0 p1 : TxnP} {rest : List TxnP} (h : TxnRow base w (.slice (some ⟨g, 0, none⟩) n cap) (p0 :: p1 :: rest)) :
    TxnRow base ((((((((w.setCell ⟨g, 0, none⟩ (.int .i64 p1.d.id)).setCell ⟨g, 1, none⟩ (.int .i64 p1.d.session)).setCell ⟨g, 2, none⟩ (.int .i64 p1.d.seq)).setCell ⟨g, 3, none⟩ p1.sl).setCell ⟨g, 4, none⟩ (.int .i64 p0.d.id)).setCell ⟨g, 5, none⟩ (.int .i64 p0.d.session)).setCell ⟨g, 6, none⟩ (.int .i64 p0.d.seq)).setCell ⟨g, 7, none⟩ p0.sl) (.slice (some ⟨g, 0, none⟩) n cap) (p1 :: p0 :: rest) := by
  obtain ⟨h1, h2, h3⟩ := h
  have hn : n = (p0 :: p1 :: rest).length := by
    have := own_shape h1
    obtain ⟨a, c, e⟩ := this
    simp only [Value.slice.injEq] at e
    exact e.2.1
  subst hn
  have s0 := (h1.stored 0 (.int .i64 p1.d.id)).1
  have s1 := (s0.stored 1 (.int .i64 p1.d.session)).1
  have s2 := (s1.stored 2 (.int .i64 p1.d.seq)).1
  have s3 := (s2.stored 3 p1.sl).1
  have s4 := (s3.stored 4 (.int .i64 p0.d.id)).1
  have s5 := (s4.stored 5 (.int .i64 p0.d.session)).1
  have s6 := (s5.stored 6 (.int .i64 p0.d.seq)).1
  have s7 := (s6.stored 7 p0.sl).1
  refine ⟨?_, fun p hp => ?_, h3⟩
  · simpa [txnCells, TxnP.cells] using s7
  · have hp' : p ∈ p0 :: p1 :: rest := by
      simp only [List.mem_cons] at hp ⊢
      rcases hp with h | h | h
      · exact Or.inr (Or.inl h)
      · exact Or.inl h
      · exact Or.inr (Or.inr h)
    refine ⟨?_, (h2 p hp').2⟩
    have hk := (h2 p hp').1
    have hne := (h2 p hp').2
    have ho : ∀ (u : World), u.ownsRow base 90 3 p.sl p.d.acts.length (actCells p.d.acts) → ∀ j x, (u.setCell ⟨g, j, none⟩ x).ownsRow base 90 3 p.sl p.d.acts.length (actCells p.d.acts) := fun u hu j x =>
      own_outs hu (Out.setCell u g j x) (fun k hk hk' => by
        simp only [List.mem_singleton] at hk'
        subst hk'
        have e : p.sl.ownBlock = some k := by
          unfold blk at hk
          cases hb : p.sl.ownBlock with
          | none => rw [hb] at hk; simp at hk
          | some x => rw [hb] at hk; simp at hk; rw [hk]
        rcases hne with h9 | h9
        · rw [h9] at e; cases e
        · exact h9 (by rw [e]; rfl))
    exact ho _ (ho _ (ho _ (ho _ (ho _ (ho _ (ho _ (ho _ hk _ _) _ _) _ _) _ _) _ _) _ _) _ _) _ _

set_option maxRecDepth 100000 in
set_option maxHeartbeats 8000000 in
theorem l8Two_any (a0 : Option Addr) (cap0 : Nat) (zs : List Int) (w : World) (h : Row .u8 w a0 zs) (hu : ∀ i, 0 ≤ zs.getD i 0 ∧ zs.getD i 0 ≤ 255) (hl : zs.length ≤ 1048576) :
    Calls Try.prog 39 #[.slice a0 zs.length cap0] w fun e w' => ∃ (v1 v2 : Value) (q1 q2 : List TxnQ), e = .returned (.tuple #[v1, v2]) ∧ txnK.At w' v1 q1 ∧ txnK.At w' v2 q2 ∧ CapOk v1 ∧ CapOk v2 ∧ q1.length ≤ 45 ∧ q2.length ≤ 45 ∧ (∀ q ∈ q1, q.acts.length ≤ 5) ∧ (∀ q ∈ q2, q.acts.length ≤ 5) ∧ Below w.heap.size w w' := by
  obtain ⟨i0, hi, hz0, hz1, hz2⟩ := info_parts infoTxn
  go_enter Try.func39, Try.ntmps39
  go_wp2_with fail
  refine (source_any w.heap.size a0 cap0 zs w (Nat.le_refl _) hl hu h).mono ?_
  rintro e w1 ⟨rfl, hS, hb1⟩
  generalize hSB : w.heap.size = b at *
  have hlt := hS.lt
  go_wp2_with fail
  refine (l8Bent_any b b 0 w1 hS (by omega)).mono ?_
  rintro e w2 ⟨va, pa, rfl, hpl, hpa, hRa, hSn, hg2⟩
  replace hS := hSn
  clear hSn
  have HPA : Hid (∀ p ∈ pa, p.d.acts.length ≤ 5) := hpa
  clear hpa
  obtain ⟨aa1, ca1, rfl⟩ := own_shape hRa.1
  have hlq : (pa.length : Int) ≤ 41 := by omega
  go_wp2_with fail
  refine (next_any b b (0 + 200) ((pa.length : Int) + 1) w2 hS (by omega) (by omega)).mono ?_
  rintro e w3 ⟨r, rfl, hr, hSn, hgn⟩
  replace hS := hSn
  replace hRa := hRa.src hlt.2 hgn
  replace hg2 := hg2.trans hgn
  clear hSn hgn
  obtain ⟨m, rfl⟩ := Int.eq_ofNat_of_zero_le hr.1
  have hm : m ≤ pa.length := by have := hr.2.1 (by omega); omega
  have hb3 : Below b w w3 := by subst hSB; exact below_of_src hb1 hg2 (Nat.le_refl _)
  have hcapa := hRa.cap
  obtain ⟨hca1, hca2⟩ : pa.length ≤ ca1 ∧ ca1 ≤ maxLen := hcapa
  have hm0 : (0 : Int) ≤ (m : Int) := by omega
  have hmc : (m : Int) ≤ (ca1 : Int) := by omega
  have hmc' : m ≤ ca1 := by omega
  have hTk := hRa.atK.takeK m (by rw [List.length_map]; exact hm)
  have hcp := l2CopyAllG_any (.slice aa1 m ca1) ((pa.map TxnP.qk).take m) w3 hTk (fun q hq => hRa.nice q (List.mem_of_mem_take hq)) (fun q hq => qk_acts HPA.out q (List.mem_of_mem_take hq)) (by rw [List.length_take, List.length_map]; omega)
  have hlt3 : b < w3.heap.size := Nat.lt_of_lt_of_le hlt.2 hg2.size
  clear hr hTk
  go_wp2_with fail
  refine hcp.mono ?_
  rintro e w4 ⟨vb, ps, rfl, hpl2, hp5, hR, hb4⟩
  replace hS := hS.below hb4
  have hg : w3.grownBy w4 (some b) := grown_of_below hb4 _
  have HP : Hid (∀ p ∈ ps, p.d.acts.length ≤ 5) := hp5
  clear hcp hp5 hb4 hm0 hmc hmc'
  obtain ⟨a1, c1, rfl⟩ := own_shape hR.1
  by_cases hl2 : 1 < ps.length
  · have hl2i : (1 : Int) < (ps.length : Int) := by omega
    go_wp2_with fail
    refine (chance_any b b (0 + 200 + 1) 3 w4 hS (by omega) (by omega)).mono ?_
    rintro e w5 ⟨tt, rfl, hSn, hgn⟩
    replace hR := hR.src hlt3 hgn
    replace hg := hg.trans hgn
    replace hS := hSn
    clear hSn hgn
    cases tt with
    | false =>
      go_wp2_with fail
      refine (next_any b b (0 + 200 + 1 + 1) 3 w5 hS (by omega) (by omega)).mono ?_
      rintro e w6 ⟨r, rfl, hr, hSn, hgn⟩
      replace hR := hR.src hlt3 hgn
      replace hg := hg.trans hgn
      replace hS := hSn
      obtain ⟨j0, rfl⟩ := Int.eq_ofNat_of_zero_le hr.1
      have hj0 : j0 ≤ 2 := by have := hr.2.1 (by omega); omega
      obtain ⟨T3, hT3⟩ : ∃ T3, T3 = 0 + 200 + 1 + 1 + 1 := ⟨_, rfl⟩
      rw [← hT3] at hS
      have hT3' : T3 ≤ 1000 := by omega
      clear hgn hSn hr hT3
      go_wp2
      go_loopw [6, 8] (fun v c wr => ∃ (j : Nat) (ps : List TxnP), c = .int .i64 j ∧ j ≤ 3 ∧ j + ps.length ≤ 44 ∧ Hid (∀ p ∈ ps, p.d.acts.length ≤ 5) ∧ TxnRow w3.heap.size wr v ps ∧ Src b wr b (T3 + 13 * (3 - j)) ∧ w3.grownBy wr (some b)) (fun _ c _ => (intOf c).toNat)
      case atStart => exact ⟨j0, ps, rfl, by omega, by omega, HP, hR, hS.mono (by omega), hg⟩
      case round =>
        clear hR hS hg HP hpl2
        obtain ⟨j, ps, rfl, hj6, hj, HP, hR, hS, hg⟩ := hrel
        have hsz := hg.size
        obtain ⟨a1, c1, rfl⟩ := own_shape hR.1
        by_cases hpos : 0 < j
        · skip
          go_wp2_with fail
          refine (l2Draw_any b b (T3 + 13 * (3 - j)) wr hS (by omega)).mono ?_
          rintro e w4 ⟨i, s, q, a, c, xs, rfl, hx1, hx3, ho, hSn, hgn⟩
          have hpn : Value.ownBlock (.slice a xs.length c) = none ∨ Value.ownBlock (.slice a xs.length c) ≠ Value.ownBlock (.slice a1 ps.length c1) := own_apart3' hR.1 ho (Nat.le_refl _)
          replace hR := hR.src hlt3 hgn
          replace hg := hg.trans hgn
          replace hS := hSn
          replace ho := own_base ho hsz
          clear hgn hSn
          have hbT : Below w4.heap.size w4 (w4.alloc (.cells #[.int .i64 i, .int .i64 s, .int .i64 q, .slice a xs.length c] 35)) := by go_grown
          have hX := Blk.new w4 35 #[.int .i64 i, .int .i64 s, .int .i64 q, .slice a xs.length c]
          have hkn := l7Known_any (.slice a1 ps.length c1) (ps.map TxnP.qk) w4.heap.size 0 ⟨i, s, q, xs⟩ (.slice a xs.length c) _ (hR.below hbT).atK (box4_new w4 _ _ _ _ 35) (by rw [List.length_map]; omega)
          replace hg := grown_low hg (hbT.mono hg.size)
          replace hS := hS.below hbT
          replace hR := hR.below hbT
          replace ho := own_below ho hbT
          generalize knw ((ps.map TxnP.qk).map TxnQ.e) ⟨i, s, q, xs⟩ = K at *
          go_wp2_with fail
          generalize w4.heap.size = H4 at *
          generalize w4.alloc (.cells #[.int .i64 i, .int .i64 s, .int .i64 q, .slice a xs.length c] 35) = W4 at *
          refine hkn.mono ?_
          rintro e w6 ⟨rfl, hb6⟩
          replace hg := grown_low hg (hb6.mono hg.size)
          replace hS := hS.below hb6
          replace hR := hR.below hb6
          replace ho := own_below ho hb6
          replace hX := hX.below hb6
          clear hkn hb6 hbT
          cases K with
          | true =>
            clear ho hpn hX
            go_wp2
            go_roundw
            case rel => exact ⟨j - 1, ps, by go_num, by omega, by omega, HP, hR, hS.mono (by omega), hg⟩
            case measure => simp [intOf]; omega
          | false =>
            have x0 := hX.cell 0 _ rfl
            have x1 := hX.cell 1 _ rfl
            have x2 := hX.cell 2 _ rfl
            have x3 := hX.cell 3 _ rfl
            have hbA : Below w6.heap.size w6 (w6.alloc (.cells #[.int .i64 i, .int .i64 s, .int .i64 q, .slice a xs.length c] 35)) := by go_grown
            have hsz4 := hg.size
            have ho2 := own_below hR.1 hbA
            go_wp2_with (at_builtin; refine wpList_append_own_at _ rfl _ _ 24 rfl w3.heap.size 35 i0 (.agg #[.int .i64 0, .int .i64 0, .int .i64 0, .slice none 0 0]) 4 48 Try.underlying24 hi hz0 hz1 hz2 rfl (by decide) _ ps.length (txnCells ps) rfl ho2 ⟨w6.heap.size, 0, none⟩ 1 1 [.int .i64 i, .int .i64 s, .int .i64 q, .slice a xs.length c] rfl rfl ?c1 ?c2 ?c3 ?c4 ?c5 ?_)
            all_goals try (case c1 => intro j u hj; match j, hj with | 0, hj => simp at hj; subst hj; simp [Addr.add] | 1, hj => simp at hj; subst hj; simp [Addr.add] | 2, hj => simp at hj; subst hj; simp [Addr.add] | 3, hj => simp at hj; subst hj; simp [Addr.add])
            all_goals try (case c2 => intro u hu; simp at hu; rcases hu with rfl | rfl | rfl | rfl <;> rfl)
            all_goals try (case c3 => unfold maxLen; omega)
            all_goals try (case c4 => omega)
            all_goals try (case c5 => first | omega | (simp; omega))
            intro v' w5 hown hgrow hnil hat
            have hgo : ∀ j, (Value.slice a1 ps.length c1).ownBlock = some j → w3.heap.size ≤ j := fun j hj => (ho2.lt j hj).1
            have hB5 : Below w3.heap.size w6 w5 := ((Below.refl w3.heap.size w6).alloc hsz4 (.cells #[.int .i64 i, .int .i64 s, .int .i64 q, .slice a xs.length c] 35)).grown hgrow (by simp; omega) hgo
            have hR5 : Hid (TxnRow w3.heap.size w5 v' (ps ++ [(⟨⟨i, s, q, xs⟩, a, c⟩ : TxnP)])) := (hR.below hbA).append (⟨⟨i, s, q, xs⟩, a, c⟩ : TxnP) (own_below ho hbA) hpn (by simpa [TxnP.cells, TxnP.sl] using hown) hgrow (by rw [World.size_alloc]; exact hat) hnil
            replace hg := grown_low hg hB5
            replace hS := hS.low hB5 hlt3
            have HP5 : Hid (∀ p ∈ ps ++ [(⟨⟨i, s, q, xs⟩, a, c⟩ : TxnP)], p.d.acts.length ≤ 5) := by
              intro p hp
              simp only [List.mem_append, List.mem_singleton] at hp
              rcases hp with hp | rfl
              · exact HP.out p hp
              · show xs.length ≤ 5; omega
            clear hR ho ho2 hown hgrow hat hnil hgo hB5 hbA hpn
            clear x0 x1 x2 x3 hX
            go_wp2
            go_roundw
            case rel => exact ⟨j - 1, ps ++ [(⟨⟨i, s, q, xs⟩, a, c⟩ : TxnP)], by go_num, by omega, by simp; omega, HP5, hR5.out, hS.mono (by omega), hg⟩
            case measure => simp [intOf]; omega
        · go_wp2_with fail
          refine (chance_any b b (T3 + 13 * (3 - j)) 6 wr hS (by omega) (by omega)).mono ?_
          rintro e w7 ⟨tt, rfl, hSn, hgn⟩
          replace hR := hR.src hlt3 hgn
          replace hg := hg.trans hgn
          replace hS := hSn
          clear hSn hgn
          cases tt with
          | false =>
            have hRa7 := hRa.src (show b < w1.heap.size from hlt.2) hg
            have hbF : Below b w w7 := hb3.grown hg (by rw [← hSB]; exact hb3.size) (fun k hk => by simp at hk; omega)
            have HA : Hid (txnK.At w7 (.slice aa1 pa.length ca1) (pa.map TxnP.qk) ∧ txnK.At w7 (.slice a1 ps.length c1) (ps.map TxnP.qk) ∧ CapOk (.slice aa1 pa.length ca1) ∧ CapOk (.slice a1 ps.length c1)) := ⟨hRa7.atK, hR.atK, hRa7.cap, hR.cap⟩
            clear hRa7 hR hRa hS hg
            go_wp2
            refine bodyPost_ret (v := .tuple #[.slice aa1 pa.length ca1, .slice a1 ps.length c1]) (by simp [results, Try.results39, go_sem]) rfl ?_
            exact ⟨_, _, _, _, rfl, HA.out.1, HA.out.2.1, HA.out.2.2.1, HA.out.2.2.2, by rw [List.length_map]; omega, by rw [List.length_map]; omega, qk_acts HPA.out, qk_acts HP.out, by rw [hSB]; exact hbF⟩
          | true =>
            go_wp2_with fail
            refine (l8Bent_any b b (T3 + 13 * (3 - j) + 1) w7 hS (by omega)).mono ?_
            rintro e w8 ⟨vb, pb, rfl, hpl8, hp8, hR8, hSn, hgn⟩
            replace hg := hg.trans hgn
            obtain ⟨a8, c8, rfl⟩ := own_shape hR8.1
            have hRa7 := hRa.src (show b < w1.heap.size from hlt.2) hg
            have hbF : Below b w w8 := hb3.grown hg (by rw [← hSB]; exact hb3.size) (fun k hk => by simp at hk; omega)
            have HA : Hid (txnK.At w8 (.slice aa1 pa.length ca1) (pa.map TxnP.qk) ∧ txnK.At w8 (.slice a8 pb.length c8) (pb.map TxnP.qk) ∧ CapOk (.slice aa1 pa.length ca1) ∧ CapOk (.slice a8 pb.length c8)) := ⟨hRa7.atK, hR8.atK, hRa7.cap, hR8.cap⟩
            have HP8 : Hid (∀ p ∈ pb, p.d.acts.length ≤ 5) := hp8
            clear hRa7 hR hRa hS hg hR8 hSn hgn hp8
            go_wp2
            refine bodyPost_ret (v := .tuple #[.slice aa1 pa.length ca1, .slice a8 pb.length c8]) (by simp [results, Try.results39, go_sem]) rfl ?_
            exact ⟨_, _, _, _, rfl, HA.out.1, HA.out.2.1, HA.out.2.2.1, HA.out.2.2.2, by rw [List.length_map]; omega, by rw [List.length_map]; omega, qk_acts HPA.out, qk_acts HP8.out, by rw [hSB]; exact hbF⟩
    | true =>
      match ps, hl2, hl2i, hR, HP, hpl2 with
      | p0 :: p1 :: rs, _, hl2i, hR, HP, hpl2 =>
      have hOw := hR.ownK
      obtain ⟨g, rfl⟩ : ∃ g, a1 = some ⟨g, 0, none⟩ := by
        rcases hR.1.2 with ⟨e, _⟩ | ⟨g, c, cur, e, _⟩
        · simp at e
        · simp only [Value.slice.injEq] at e
          exact ⟨g, e.1⟩
      have k0 := hOw.cell 0 (by simp) 0 (.int .i64 p0.d.id) rfl
      have k1 := hOw.cell 0 (by simp) 1 (.int .i64 p0.d.session) rfl
      have k2 := hOw.cell 0 (by simp) 2 (.int .i64 p0.d.seq) rfl
      have k3 := hOw.cell 0 (by simp) 3 p0.sl rfl
      have k4 := hOw.cell 1 (by simp) 0 (.int .i64 p1.d.id) rfl
      have k5 := hOw.cell 1 (by simp) 1 (.int .i64 p1.d.session) rfl
      have k6 := hOw.cell 1 (by simp) 2 (.int .i64 p1.d.seq) rfl
      have k7 := hOw.cell 1 (by simp) 3 p1.sl rfl
      have eK : txnK.size = 4 := rfl
      simp only [eK, Nat.zero_mul, Nat.one_mul, Nat.zero_add, Nat.add_zero, Nat.reduceAdd] at k0 k1 k2 k3 k4 k5 k6 k7
      obtain ⟨k0, f0⟩ := k0
      obtain ⟨k1, f1⟩ := k1
      obtain ⟨k2, f2⟩ := k2
      obtain ⟨k3, f3⟩ := k3
      obtain ⟨k4, f4⟩ := k4
      obtain ⟨k5, f5⟩ := k5
      obtain ⟨k6, f6⟩ := k6
      obtain ⟨k7, f7⟩ := k7
      have hRs := row_swap hR
      obtain ⟨⟨pi0, ps0, pq0, xs0⟩, pa0, pc0⟩ := p0
      obtain ⟨⟨pi1, ps1, pq1, xs1⟩, pa1, pc1⟩ := p1
      dsimp only [TxnP.sl] at k0 k1 k2 k3 k4 k5 k6 k7 hRs
      have hgb : b ≠ g := by
        intro e
        have := (hR.1.lt g (by simp [Value.ownBlock])).1
        omega
      have hg3 : w3.heap.size ≤ g := (hR.1.lt g (by simp [Value.ownBlock])).1
      have hgs : g < w5.heap.size := (hR.1.lt g (by simp [Value.ownBlock])).2
      have HR2 : Hid _ := hRs
      have HP2 : Hid (∀ p ∈ (⟨⟨pi1, ps1, pq1, xs1⟩, pa1, pc1⟩ : TxnP) :: (⟨⟨pi0, ps0, pq0, xs0⟩, pa0, pc0⟩ : TxnP) :: rs, p.d.acts.length ≤ 5) := fun p hp => HP.out p (by
        simp only [List.mem_cons] at hp ⊢
        rcases hp with h | h | h
        · exact Or.inr (Or.inl h)
        · exact Or.inl h
        · exact Or.inr (Or.inr h))
      have hlen2 : ((⟨⟨pi0, ps0, pq0, xs0⟩, pa0, pc0⟩ : TxnP) :: (⟨⟨pi1, ps1, pq1, xs1⟩, pa1, pc1⟩ : TxnP) :: rs).length = rs.length + 2 := rfl
      rw [hlen2] at *
      have hB0 : Below w3.heap.size w5 w5 := Below.refl _ _
      have hB1 := hB0.setCell (p := ⟨g, 0, none⟩) hg3 (.int .i64 pi1)
      have hB2 := hB1.setCell (p := ⟨g, 1, none⟩) hg3 (.int .i64 ps1)
      have hB3 := hB2.setCell (p := ⟨g, 2, none⟩) hg3 (.int .i64 pq1)
      have hB4 := hB3.setCell (p := ⟨g, 3, none⟩) hg3 (.slice pa1 xs1.length pc1)
      have hB5 := hB4.setCell (p := ⟨g, 4, none⟩) hg3 (.int .i64 pi0)
      have hB6 := hB5.setCell (p := ⟨g, 5, none⟩) hg3 (.int .i64 ps0)
      have hB7 := hB6.setCell (p := ⟨g, 6, none⟩) hg3 (.int .i64 pq0)
      have hB8 := hB7.setCell (p := ⟨g, 7, none⟩) hg3 (.slice pa0 xs0.length pc0)
      clear hB0 hB1 hB2 hB3 hB4 hB5 hB6 hB7
      have HB8 : Hid _ := hB8
      clear hRs hOw hR HP hlen2 hB8
      go_wp2_with fail
      clear k0 k1 k2 k3 k4 k5 k6 k7 f0 f1 f2 f3 f4 f5 f6 f7
      have hB8 := HB8.out
      have HP := HP2
      clear HB8 HP2
      have hsz5 : w3.heap.size ≤ w5.heap.size := by omega
      generalize (((((((w5.setCell ⟨g, 0, none⟩ (.int .i64 pi1)).setCell ⟨g, 1, none⟩ (.int .i64 ps1)).setCell ⟨g, 2, none⟩ (.int .i64 pq1)).setCell ⟨g, 3, none⟩ (.slice pa1 xs1.length pc1)).setCell ⟨g, 4, none⟩ (.int .i64 pi0)).setCell ⟨g, 5, none⟩ (.int .i64 ps0)).setCell ⟨g, 6, none⟩ (.int .i64 pq0)).setCell ⟨g, 7, none⟩ (.slice pa0 xs0.length pc0) = S8 at *
      have hR : TxnRow w3.heap.size S8 (.slice (some ⟨g, 0, none⟩) (rs.length + 2) c1) ((⟨⟨pi1, ps1, pq1, xs1⟩, pa1, pc1⟩ : TxnP) :: (⟨⟨pi0, ps0, pq0, xs0⟩, pa0, pc0⟩ : TxnP) :: rs) := HR2.out
      clear HR2
      have hbA : Below S8.heap.size S8 (S8.alloc (.cells #[.int .i64 pi0, .int .i64 ps0, .int .i64 pq0, .slice pa0 xs0.length pc0] 35)) := by go_grown
      replace hR := hR.below hbA
      replace hB8 := hB8.trans (hbA.mono (Nat.le_trans hsz5 hB8.size))
      replace hS := hS.low hB8 hlt3
      replace hg := grown_low hg hB8
      have hpl2 : rs.length + 2 ≤ 41 := hpl2
      have hpl3 : ((⟨⟨pi1, ps1, pq1, xs1⟩, pa1, pc1⟩ : TxnP) :: (⟨⟨pi0, ps0, pq0, xs0⟩, pa0, pc0⟩ : TxnP) :: rs).length ≤ 41 := hpl2
      clear hbA hB8 hpl2
      have hpl2 := hpl3
      clear hpl3
      generalize S8.alloc (.cells #[.int .i64 pi0, .int .i64 ps0, .int .i64 pq0, .slice pa0 xs0.length pc0] 35) = W9 at *
      generalize (⟨⟨pi1, ps1, pq1, xs1⟩, pa1, pc1⟩ : TxnP) :: (⟨⟨pi0, ps0, pq0, xs0⟩, pa0, pc0⟩ : TxnP) :: rs = ps at *
      refine (next_any b b (0 + 200 + 1 + 1) 3 W9 hS (by omega) (by omega)).mono ?_
      rintro e w6 ⟨r, rfl, hr, hSn, hgn⟩
      replace hR := hR.src hlt3 hgn
      replace hg := hg.trans hgn
      replace hS := hSn
      obtain ⟨j0, rfl⟩ := Int.eq_ofNat_of_zero_le hr.1
      have hj0 : j0 ≤ 2 := by have := hr.2.1 (by omega); omega
      obtain ⟨T3, hT3⟩ : ∃ T3, T3 = 0 + 200 + 1 + 1 + 1 := ⟨_, rfl⟩
      rw [← hT3] at hS
      have hT3' : T3 ≤ 1000 := by omega
      clear hgn hSn hr hT3
      go_wp2
      go_loopw [6, 8] (fun v c wr => ∃ (j : Nat) (ps : List TxnP), c = .int .i64 j ∧ j ≤ 3 ∧ j + ps.length ≤ 44 ∧ Hid (∀ p ∈ ps, p.d.acts.length ≤ 5) ∧ TxnRow w3.heap.size wr v ps ∧ Src b wr b (T3 + 13 * (3 - j)) ∧ w3.grownBy wr (some b)) (fun _ c _ => (intOf c).toNat)
      case atStart => exact ⟨j0, ps, rfl, by omega, by omega, HP, hR, hS.mono (by omega), hg⟩
      case round =>
        clear hR hS hg HP hpl2
        obtain ⟨j, ps, rfl, hj6, hj, HP, hR, hS, hg⟩ := hrel
        have hsz := hg.size
        obtain ⟨a1, c1, rfl⟩ := own_shape hR.1
        by_cases hpos : 0 < j
        · skip
          go_wp2_with fail
          refine (l2Draw_any b b (T3 + 13 * (3 - j)) wr hS (by omega)).mono ?_
          rintro e w4 ⟨i, s, q, a, c, xs, rfl, hx1, hx3, ho, hSn, hgn⟩
          have hpn : Value.ownBlock (.slice a xs.length c) = none ∨ Value.ownBlock (.slice a xs.length c) ≠ Value.ownBlock (.slice a1 ps.length c1) := own_apart3' hR.1 ho (Nat.le_refl _)
          replace hR := hR.src hlt3 hgn
          replace hg := hg.trans hgn
          replace hS := hSn
          replace ho := own_base ho hsz
          clear hgn hSn
          have hbT : Below w4.heap.size w4 (w4.alloc (.cells #[.int .i64 i, .int .i64 s, .int .i64 q, .slice a xs.length c] 35)) := by go_grown
          have hX := Blk.new w4 35 #[.int .i64 i, .int .i64 s, .int .i64 q, .slice a xs.length c]
          have hkn := l7Known_any (.slice a1 ps.length c1) (ps.map TxnP.qk) w4.heap.size 0 ⟨i, s, q, xs⟩ (.slice a xs.length c) _ (hR.below hbT).atK (box4_new w4 _ _ _ _ 35) (by rw [List.length_map]; omega)
          replace hg := grown_low hg (hbT.mono hg.size)
          replace hS := hS.below hbT
          replace hR := hR.below hbT
          replace ho := own_below ho hbT
          generalize knw ((ps.map TxnP.qk).map TxnQ.e) ⟨i, s, q, xs⟩ = K at *
          go_wp2_with fail
          generalize w4.heap.size = H4 at *
          generalize w4.alloc (.cells #[.int .i64 i, .int .i64 s, .int .i64 q, .slice a xs.length c] 35) = W4 at *
          refine hkn.mono ?_
          rintro e w6 ⟨rfl, hb6⟩
          replace hg := grown_low hg (hb6.mono hg.size)
          replace hS := hS.below hb6
          replace hR := hR.below hb6
          replace ho := own_below ho hb6
          replace hX := hX.below hb6
          clear hkn hb6 hbT
          cases K with
          | true =>
            clear ho hpn hX
            go_wp2
            go_roundw
            case rel => exact ⟨j - 1, ps, by go_num, by omega, by omega, HP, hR, hS.mono (by omega), hg⟩
            case measure => simp [intOf]; omega
          | false =>
            have x0 := hX.cell 0 _ rfl
            have x1 := hX.cell 1 _ rfl
            have x2 := hX.cell 2 _ rfl
            have x3 := hX.cell 3 _ rfl
            have hbA : Below w6.heap.size w6 (w6.alloc (.cells #[.int .i64 i, .int .i64 s, .int .i64 q, .slice a xs.length c] 35)) := by go_grown
            have hsz4 := hg.size
            have ho2 := own_below hR.1 hbA
            go_wp2_with (at_builtin; refine wpList_append_own_at _ rfl _ _ 24 rfl w3.heap.size 35 i0 (.agg #[.int .i64 0, .int .i64 0, .int .i64 0, .slice none 0 0]) 4 48 Try.underlying24 hi hz0 hz1 hz2 rfl (by decide) _ ps.length (txnCells ps) rfl ho2 ⟨w6.heap.size, 0, none⟩ 1 1 [.int .i64 i, .int .i64 s, .int .i64 q, .slice a xs.length c] rfl rfl ?c1 ?c2 ?c3 ?c4 ?c5 ?_)
            all_goals try (case c1 => intro j u hj; match j, hj with | 0, hj => simp at hj; subst hj; simp [Addr.add] | 1, hj => simp at hj; subst hj; simp [Addr.add] | 2, hj => simp at hj; subst hj; simp [Addr.add] | 3, hj => simp at hj; subst hj; simp [Addr.add])
            all_goals try (case c2 => intro u hu; simp at hu; rcases hu with rfl | rfl | rfl | rfl <;> rfl)
            all_goals try (case c3 => unfold maxLen; omega)
            all_goals try (case c4 => omega)
            all_goals try (case c5 => first | omega | (simp; omega))
            intro v' w5 hown hgrow hnil hat
            have hgo : ∀ j, (Value.slice a1 ps.length c1).ownBlock = some j → w3.heap.size ≤ j := fun j hj => (ho2.lt j hj).1
            have hB5 : Below w3.heap.size w6 w5 := ((Below.refl w3.heap.size w6).alloc hsz4 (.cells #[.int .i64 i, .int .i64 s, .int .i64 q, .slice a xs.length c] 35)).grown hgrow (by simp; omega) hgo
            have hR5 : Hid (TxnRow w3.heap.size w5 v' (ps ++ [(⟨⟨i, s, q, xs⟩, a, c⟩ : TxnP)])) := (hR.below hbA).append (⟨⟨i, s, q, xs⟩, a, c⟩ : TxnP) (own_below ho hbA) hpn (by simpa [TxnP.cells, TxnP.sl] using hown) hgrow (by rw [World.size_alloc]; exact hat) hnil
            replace hg := grown_low hg hB5
            replace hS := hS.low hB5 hlt3
            have HP5 : Hid (∀ p ∈ ps ++ [(⟨⟨i, s, q, xs⟩, a, c⟩ : TxnP)], p.d.acts.length ≤ 5) := by
              intro p hp
              simp only [List.mem_append, List.mem_singleton] at hp
              rcases hp with hp | rfl
              · exact HP.out p hp
              · show xs.length ≤ 5; omega
            clear hR ho ho2 hown hgrow hat hnil hgo hB5 hbA hpn
            clear x0 x1 x2 x3 hX
            go_wp2
            go_roundw
            case rel => exact ⟨j - 1, ps ++ [(⟨⟨i, s, q, xs⟩, a, c⟩ : TxnP)], by go_num, by omega, by simp; omega, HP5, hR5.out, hS.mono (by omega), hg⟩
            case measure => simp [intOf]; omega
        · go_wp2_with fail
          refine (chance_any b b (T3 + 13 * (3 - j)) 6 wr hS (by omega) (by omega)).mono ?_
          rintro e w7 ⟨tt, rfl, hSn, hgn⟩
          replace hR := hR.src hlt3 hgn
          replace hg := hg.trans hgn
          replace hS := hSn
          clear hSn hgn
          cases tt with
          | false =>
            have hRa7 := hRa.src (show b < w1.heap.size from hlt.2) hg
            have hbF : Below b w w7 := hb3.grown hg (by rw [← hSB]; exact hb3.size) (fun k hk => by simp at hk; omega)
            have HA : Hid (txnK.At w7 (.slice aa1 pa.length ca1) (pa.map TxnP.qk) ∧ txnK.At w7 (.slice a1 ps.length c1) (ps.map TxnP.qk) ∧ CapOk (.slice aa1 pa.length ca1) ∧ CapOk (.slice a1 ps.length c1)) := ⟨hRa7.atK, hR.atK, hRa7.cap, hR.cap⟩
            clear hRa7 hR hRa hS hg
            go_wp2
            refine bodyPost_ret (v := .tuple #[.slice aa1 pa.length ca1, .slice a1 ps.length c1]) (by simp [results, Try.results39, go_sem]) rfl ?_
            exact ⟨_, _, _, _, rfl, HA.out.1, HA.out.2.1, HA.out.2.2.1, HA.out.2.2.2, by rw [List.length_map]; omega, by rw [List.length_map]; omega, qk_acts HPA.out, qk_acts HP.out, by rw [hSB]; exact hbF⟩
          | true =>
            go_wp2_with fail
            refine (l8Bent_any b b (T3 + 13 * (3 - j) + 1) w7 hS (by omega)).mono ?_
            rintro e w8 ⟨vb, pb, rfl, hpl8, hp8, hR8, hSn, hgn⟩
            replace hg := hg.trans hgn
            obtain ⟨a8, c8, rfl⟩ := own_shape hR8.1
            have hRa7 := hRa.src (show b < w1.heap.size from hlt.2) hg
            have hbF : Below b w w8 := hb3.grown hg (by rw [← hSB]; exact hb3.size) (fun k hk => by simp at hk; omega)
            have HA : Hid (txnK.At w8 (.slice aa1 pa.length ca1) (pa.map TxnP.qk) ∧ txnK.At w8 (.slice a8 pb.length c8) (pb.map TxnP.qk) ∧ CapOk (.slice aa1 pa.length ca1) ∧ CapOk (.slice a8 pb.length c8)) := ⟨hRa7.atK, hR8.atK, hRa7.cap, hR8.cap⟩
            have HP8 : Hid (∀ p ∈ pb, p.d.acts.length ≤ 5) := hp8
            clear hRa7 hR hRa hS hg hR8 hSn hgn hp8
            go_wp2
            refine bodyPost_ret (v := .tuple #[.slice aa1 pa.length ca1, .slice a8 pb.length c8]) (by simp [results, Try.results39, go_sem]) rfl ?_
            exact ⟨_, _, _, _, rfl, HA.out.1, HA.out.2.1, HA.out.2.2.1, HA.out.2.2.2, by rw [List.length_map]; omega, by rw [List.length_map]; omega, qk_acts HPA.out, qk_acts HP8.out, by rw [hSB]; exact hbF⟩
  · have hl2i : ¬ (1 : Int) < (ps.length : Int) := by omega
    go_wp2_with fail
    refine (next_any b b (0 + 200 + 1) 3 w4 hS (by omega) (by omega)).mono ?_
    rintro e w6 ⟨r, rfl, hr, hSn, hgn⟩
    replace hR := hR.src hlt3 hgn
    replace hg := hg.trans hgn
    replace hS := hSn
    obtain ⟨j0, rfl⟩ := Int.eq_ofNat_of_zero_le hr.1
    have hj0 : j0 ≤ 2 := by have := hr.2.1 (by omega); omega
    obtain ⟨T3, hT3⟩ : ∃ T3, T3 = 0 + 200 + 1 + 1 := ⟨_, rfl⟩
    rw [← hT3] at hS
    have hT3' : T3 ≤ 1000 := by omega
    clear hgn hSn hr hT3
    go_wp2
    go_loopw [6, 8] (fun v c wr => ∃ (j : Nat) (ps : List TxnP), c = .int .i64 j ∧ j ≤ 3 ∧ j + ps.length ≤ 44 ∧ Hid (∀ p ∈ ps, p.d.acts.length ≤ 5) ∧ TxnRow w3.heap.size wr v ps ∧ Src b wr b (T3 + 13 * (3 - j)) ∧ w3.grownBy wr (some b)) (fun _ c _ => (intOf c).toNat)
    case atStart => exact ⟨j0, ps, rfl, by omega, by omega, HP, hR, hS.mono (by omega), hg⟩
    case round =>
      clear hR hS hg HP hpl2
      obtain ⟨j, ps, rfl, hj6, hj, HP, hR, hS, hg⟩ := hrel
      have hsz := hg.size
      obtain ⟨a1, c1, rfl⟩ := own_shape hR.1
      by_cases hpos : 0 < j
      · skip
        go_wp2_with fail
        refine (l2Draw_any b b (T3 + 13 * (3 - j)) wr hS (by omega)).mono ?_
        rintro e w4 ⟨i, s, q, a, c, xs, rfl, hx1, hx3, ho, hSn, hgn⟩
        have hpn : Value.ownBlock (.slice a xs.length c) = none ∨ Value.ownBlock (.slice a xs.length c) ≠ Value.ownBlock (.slice a1 ps.length c1) := own_apart3' hR.1 ho (Nat.le_refl _)
        replace hR := hR.src hlt3 hgn
        replace hg := hg.trans hgn
        replace hS := hSn
        replace ho := own_base ho hsz
        clear hgn hSn
        have hbT : Below w4.heap.size w4 (w4.alloc (.cells #[.int .i64 i, .int .i64 s, .int .i64 q, .slice a xs.length c] 35)) := by go_grown
        have hX := Blk.new w4 35 #[.int .i64 i, .int .i64 s, .int .i64 q, .slice a xs.length c]
        have hkn := l7Known_any (.slice a1 ps.length c1) (ps.map TxnP.qk) w4.heap.size 0 ⟨i, s, q, xs⟩ (.slice a xs.length c) _ (hR.below hbT).atK (box4_new w4 _ _ _ _ 35) (by rw [List.length_map]; omega)
        replace hg := grown_low hg (hbT.mono hg.size)
        replace hS := hS.below hbT
        replace hR := hR.below hbT
        replace ho := own_below ho hbT
        generalize knw ((ps.map TxnP.qk).map TxnQ.e) ⟨i, s, q, xs⟩ = K at *
        go_wp2_with fail
        generalize w4.heap.size = H4 at *
        generalize w4.alloc (.cells #[.int .i64 i, .int .i64 s, .int .i64 q, .slice a xs.length c] 35) = W4 at *
        refine hkn.mono ?_
        rintro e w6 ⟨rfl, hb6⟩
        replace hg := grown_low hg (hb6.mono hg.size)
        replace hS := hS.below hb6
        replace hR := hR.below hb6
        replace ho := own_below ho hb6
        replace hX := hX.below hb6
        clear hkn hb6 hbT
        cases K with
        | true =>
          clear ho hpn hX
          go_wp2
          go_roundw
          case rel => exact ⟨j - 1, ps, by go_num, by omega, by omega, HP, hR, hS.mono (by omega), hg⟩
          case measure => simp [intOf]; omega
        | false =>
          have x0 := hX.cell 0 _ rfl
          have x1 := hX.cell 1 _ rfl
          have x2 := hX.cell 2 _ rfl
          have x3 := hX.cell 3 _ rfl
          have hbA : Below w6.heap.size w6 (w6.alloc (.cells #[.int .i64 i, .int .i64 s, .int .i64 q, .slice a xs.length c] 35)) := by go_grown
          have hsz4 := hg.size
          have ho2 := own_below hR.1 hbA
          go_wp2_with (at_builtin; refine wpList_append_own_at _ rfl _ _ 24 rfl w3.heap.size 35 i0 (.agg #[.int .i64 0, .int .i64 0, .int .i64 0, .slice none 0 0]) 4 48 Try.underlying24 hi hz0 hz1 hz2 rfl (by decide) _ ps.length (txnCells ps) rfl ho2 ⟨w6.heap.size, 0, none⟩ 1 1 [.int .i64 i, .int .i64 s, .int .i64 q, .slice a xs.length c] rfl rfl ?c1 ?c2 ?c3 ?c4 ?c5 ?_)
          all_goals try (case c1 => intro j u hj; match j, hj with | 0, hj => simp at hj; subst hj; simp [Addr.add] | 1, hj => simp at hj; subst hj; simp [Addr.add] | 2, hj => simp at hj; subst hj; simp [Addr.add] | 3, hj => simp at hj; subst hj; simp [Addr.add])
          all_goals try (case c2 => intro u hu; simp at hu; rcases hu with rfl | rfl | rfl | rfl <;> rfl)
          all_goals try (case c3 => unfold maxLen; omega)
          all_goals try (case c4 => omega)
          all_goals try (case c5 => first | omega | (simp; omega))
          intro v' w5 hown hgrow hnil hat
          have hgo : ∀ j, (Value.slice a1 ps.length c1).ownBlock = some j → w3.heap.size ≤ j := fun j hj => (ho2.lt j hj).1
          have hB5 : Below w3.heap.size w6 w5 := ((Below.refl w3.heap.size w6).alloc hsz4 (.cells #[.int .i64 i, .int .i64 s, .int .i64 q, .slice a xs.length c] 35)).grown hgrow (by simp; omega) hgo
          have hR5 : Hid (TxnRow w3.heap.size w5 v' (ps ++ [(⟨⟨i, s, q, xs⟩, a, c⟩ : TxnP)])) := (hR.below hbA).append (⟨⟨i, s, q, xs⟩, a, c⟩ : TxnP) (own_below ho hbA) hpn (by simpa [TxnP.cells, TxnP.sl] using hown) hgrow (by rw [World.size_alloc]; exact hat) hnil
          replace hg := grown_low hg hB5
          replace hS := hS.low hB5 hlt3
          have HP5 : Hid (∀ p ∈ ps ++ [(⟨⟨i, s, q, xs⟩, a, c⟩ : TxnP)], p.d.acts.length ≤ 5) := by
            intro p hp
            simp only [List.mem_append, List.mem_singleton] at hp
            rcases hp with hp | rfl
            · exact HP.out p hp
            · show xs.length ≤ 5; omega
          clear hR ho ho2 hown hgrow hat hnil hgo hB5 hbA hpn
          clear x0 x1 x2 x3 hX
          go_wp2
          go_roundw
          case rel => exact ⟨j - 1, ps ++ [(⟨⟨i, s, q, xs⟩, a, c⟩ : TxnP)], by go_num, by omega, by simp; omega, HP5, hR5.out, hS.mono (by omega), hg⟩
          case measure => simp [intOf]; omega
      · go_wp2_with fail
        refine (chance_any b b (T3 + 13 * (3 - j)) 6 wr hS (by omega) (by omega)).mono ?_
        rintro e w7 ⟨tt, rfl, hSn, hgn⟩
        replace hR := hR.src hlt3 hgn
        replace hg := hg.trans hgn
        replace hS := hSn
        clear hSn hgn
        cases tt with
        | false =>
          have hRa7 := hRa.src (show b < w1.heap.size from hlt.2) hg
          have hbF : Below b w w7 := hb3.grown hg (by rw [← hSB]; exact hb3.size) (fun k hk => by simp at hk; omega)
          have HA : Hid (txnK.At w7 (.slice aa1 pa.length ca1) (pa.map TxnP.qk) ∧ txnK.At w7 (.slice a1 ps.length c1) (ps.map TxnP.qk) ∧ CapOk (.slice aa1 pa.length ca1) ∧ CapOk (.slice a1 ps.length c1)) := ⟨hRa7.atK, hR.atK, hRa7.cap, hR.cap⟩
          clear hRa7 hR hRa hS hg
          go_wp2
          refine bodyPost_ret (v := .tuple #[.slice aa1 pa.length ca1, .slice a1 ps.length c1]) (by simp [results, Try.results39, go_sem]) rfl ?_
          exact ⟨_, _, _, _, rfl, HA.out.1, HA.out.2.1, HA.out.2.2.1, HA.out.2.2.2, by rw [List.length_map]; omega, by rw [List.length_map]; omega, qk_acts HPA.out, qk_acts HP.out, by rw [hSB]; exact hbF⟩
        | true =>
          go_wp2_with fail
          refine (l8Bent_any b b (T3 + 13 * (3 - j) + 1) w7 hS (by omega)).mono ?_
          rintro e w8 ⟨vb, pb, rfl, hpl8, hp8, hR8, hSn, hgn⟩
          replace hg := hg.trans hgn
          obtain ⟨a8, c8, rfl⟩ := own_shape hR8.1
          have hRa7 := hRa.src (show b < w1.heap.size from hlt.2) hg
          have hbF : Below b w w8 := hb3.grown hg (by rw [← hSB]; exact hb3.size) (fun k hk => by simp at hk; omega)
          have HA : Hid (txnK.At w8 (.slice aa1 pa.length ca1) (pa.map TxnP.qk) ∧ txnK.At w8 (.slice a8 pb.length c8) (pb.map TxnP.qk) ∧ CapOk (.slice aa1 pa.length ca1) ∧ CapOk (.slice a8 pb.length c8)) := ⟨hRa7.atK, hR8.atK, hRa7.cap, hR8.cap⟩
          have HP8 : Hid (∀ p ∈ pb, p.d.acts.length ≤ 5) := hp8
          clear hRa7 hR hRa hS hg hR8 hSn hgn hp8
          go_wp2
          refine bodyPost_ret (v := .tuple #[.slice aa1 pa.length ca1, .slice a8 pb.length c8]) (by simp [results, Try.results39, go_sem]) rfl ?_
          exact ⟨_, _, _, _, rfl, HA.out.1, HA.out.2.1, HA.out.2.2.1, HA.out.2.2.2, by rw [List.length_map]; omega, by rw [List.length_map]; omega, qk_acts HPA.out, qk_acts HP8.out, by rw [hSB]; exact hbF⟩

set_option maxHeartbeats 1000000 in
theorem drawPlanOf_any (a0 : Option Addr) (cap0 : Nat) (zs : List Int) (w : World) (h : Row .u8 w a0 zs) (hu : ∀ i, 0 ≤ zs.getD i 0 ∧ zs.getD i 0 ≤ 255) (hl : zs.length ≤ 1048576) :
    Calls Try.prog 10 #[.slice a0 zs.length cap0] w fun e w' => ∃ (v1 v2 : Value) (q1 q2 : List TxnQ), e = .returned (.tuple #[v1, v2]) ∧ txnK.At w' v1 q1 ∧ txnK.At w' v2 q2 ∧ CapOk v1 ∧ CapOk v2 ∧ q1.length ≤ 45 ∧ q2.length ≤ 45 ∧ (∀ q ∈ q1, q.acts.length ≤ 5) ∧ (∀ q ∈ q2, q.acts.length ≤ 5) ∧ Below w.heap.size w w' := by
  go_enter Try.func10, Try.ntmps10
  go_wp2_with fail
  refine (l8Two_any a0 cap0 zs w h hu hl).mono ?_
  rintro e w1 ⟨v1, v2, q1, q2, rfl, h1, h2, c1, c2, l1, l2, p1, p2, hb⟩
  obtain ⟨a1, k1, rfl⟩ := h1.shape
  obtain ⟨a2, k2, rfl⟩ := h2.shape
  have HH : Hid (txnK.At w1 (.slice a1 q1.length k1) q1 ∧ txnK.At w1 (.slice a2 q2.length k2) q2 ∧ CapOk (.slice a1 q1.length k1) ∧ CapOk (.slice a2 q2.length k2) ∧ q1.length ≤ 45 ∧ q2.length ≤ 45 ∧ (∀ q ∈ q1, q.acts.length ≤ 5) ∧ (∀ q ∈ q2, q.acts.length ≤ 5)) := ⟨h1, h2, c1, c2, l1, l2, p1, p2⟩
  clear h1 h2 c1 c2 l1 l2 p1 p2
  go_wp2
  refine bodyPost_ret (v := .tuple #[.slice a1 q1.length k1, .slice a2 q2.length k2]) (by simp [results, Try.results10, go_sem]) rfl ?_
  obtain ⟨h1, h2, c1, c2, l1, l2, p1, p2⟩ := HH.out
  exact ⟨_, _, q1, q2, rfl, h1, h2, c1, c2, l1, l2, p1, p2, hb⟩

set_option maxHeartbeats 1000000 in
theorem drawWithout_any (a0 : Option Addr) (cap0 : Nat) (zs : List Int) (w : World) (h : Row .u8 w a0 zs) (hu : ∀ i, 0 ≤ zs.getD i 0 ∧ zs.getD i 0 ≤ 255) (hl : zs.length ≤ 1048576) :
    Calls Try.prog 12 #[.slice a0 zs.length cap0] w fun e w' => ∃ (v1 v2 : Value) (q1 q2 : List TxnQ), e = .returned (.tuple #[v1, v2]) ∧ txnK.At w' v1 q1 ∧ txnK.At w' v2 q2 ∧ CapOk v1 ∧ CapOk v2 ∧ q1.length ≤ 45 ∧ q2.length ≤ 45 ∧ (∀ q ∈ q1, q.acts.length ≤ 5) ∧ (∀ q ∈ q2, q.acts.length ≤ 5) ∧ Below w.heap.size w w' := by
  go_enter Try.func12, Try.ntmps12
  go_wp2_with fail
  refine (l8Two_any a0 cap0 zs w h hu hl).mono ?_
  rintro e w1 ⟨v1, v2, q1, q2, rfl, h1, h2, c1, c2, l1, l2, p1, p2, hb⟩
  obtain ⟨a1, k1, rfl⟩ := h1.shape
  obtain ⟨a2, k2, rfl⟩ := h2.shape
  have HH : Hid (txnK.At w1 (.slice a1 q1.length k1) q1 ∧ txnK.At w1 (.slice a2 q2.length k2) q2 ∧ CapOk (.slice a1 q1.length k1) ∧ CapOk (.slice a2 q2.length k2) ∧ q1.length ≤ 45 ∧ q2.length ≤ 45 ∧ (∀ q ∈ q1, q.acts.length ≤ 5) ∧ (∀ q ∈ q2, q.acts.length ≤ 5)) := ⟨h1, h2, c1, c2, l1, l2, p1, p2⟩
  clear h1 h2 c1 c2 l1 l2 p1 p2
  go_wp2
  refine bodyPost_ret (v := .tuple #[.slice a1 q1.length k1, .slice a2 q2.length k2]) (by simp [results, Try.results12, go_sem]) rfl ?_
  obtain ⟨h1, h2, c1, c2, l1, l2, p1, p2⟩ := HH.out
  exact ⟨_, _, q1, q2, rfl, h1, h2, c1, c2, l1, l2, p1, p2, hb⟩

set_option maxHeartbeats 1000000 in
theorem drawCommonOf_any (a0 : Option Addr) (cap0 : Nat) (zs : List Int) (w : World) (h : Row .u8 w a0 zs) (hu : ∀ i, 0 ≤ zs.getD i 0 ∧ zs.getD i 0 ≤ 255) (hl : zs.length ≤ 1048576) :
    Calls Try.prog 14 #[.slice a0 zs.length cap0] w fun e w' => ∃ (v1 v2 : Value) (q1 q2 : List TxnQ), e = .returned (.tuple #[v1, v2]) ∧ txnK.At w' v1 q1 ∧ txnK.At w' v2 q2 ∧ CapOk v1 ∧ CapOk v2 ∧ q1.length ≤ 45 ∧ q2.length ≤ 45 ∧ (∀ q ∈ q1, q.acts.length ≤ 5) ∧ (∀ q ∈ q2, q.acts.length ≤ 5) ∧ Below w.heap.size w w' := by
  go_enter Try.func14, Try.ntmps14
  go_wp2_with fail
  refine (l8Two_any a0 cap0 zs w h hu hl).mono ?_
  rintro e w1 ⟨v1, v2, q1, q2, rfl, h1, h2, c1, c2, l1, l2, p1, p2, hb⟩
  obtain ⟨a1, k1, rfl⟩ := h1.shape
  obtain ⟨a2, k2, rfl⟩ := h2.shape
  have HH : Hid (txnK.At w1 (.slice a1 q1.length k1) q1 ∧ txnK.At w1 (.slice a2 q2.length k2) q2 ∧ CapOk (.slice a1 q1.length k1) ∧ CapOk (.slice a2 q2.length k2) ∧ q1.length ≤ 45 ∧ q2.length ≤ 45 ∧ (∀ q ∈ q1, q.acts.length ≤ 5) ∧ (∀ q ∈ q2, q.acts.length ≤ 5)) := ⟨h1, h2, c1, c2, l1, l2, p1, p2⟩
  clear h1 h2 c1 c2 l1 l2 p1 p2
  go_wp2
  refine bodyPost_ret (v := .tuple #[.slice a1 q1.length k1, .slice a2 q2.length k2]) (by simp [results, Try.results14, go_sem]) rfl ?_
  obtain ⟨h1, h2, c1, c2, l1, l2, p1, p2⟩ := HH.out
  exact ⟨_, _, q1, q2, rfl, h1, h2, c1, c2, l1, l2, p1, p2, hb⟩

set_option maxRecDepth 100000 in
set_option maxHeartbeats 4000000 in
theorem drawHasTxn_any (a0 : Option Addr) (cap0 : Nat) (zs : List Int) (w : World) (h : Row .u8 w a0 zs) (hu : ∀ i, 0 ≤ zs.getD i 0 ∧ zs.getD i 0 ≤ 255) (hl : zs.length ≤ 1048576) :
    Calls Try.prog 15 #[.slice a0 zs.length cap0] w fun e w' => ∃ (v1 : Value) (q1 : List TxnQ) (i s q : Int) (a : Option Addr) (c : Nat) (xs : List ActD), e = .returned (.tuple #[v1, .agg #[.int .i64 i, .int .i64 s, .int .i64 q, .slice a xs.length c]]) ∧ txnK.At w' v1 q1 ∧ CapOk v1 ∧ q1.length ≤ 45 ∧ (∀ q ∈ q1, q.acts.length ≤ 5) ∧ Below w.heap.size w w' := by
  have hb0 : Below w.heap.size w (w.alloc (.cells #[.int .i64 0, .int .i64 0, .int .i64 0, .slice none 0 0] 35)) := by go_grown
  have R0 := Blk.new w 35 #[.int .i64 0, .int .i64 0, .int .i64 0, .slice none 0 0]
  have hs0 : w.heap.size < (w.alloc (.cells #[.int .i64 0, .int .i64 0, .int .i64 0, .slice none 0 0] 35)).heap.size := by simp
  go_enter Try.func15, Try.ntmps15
  go_wp2_with fail
  generalize w.alloc (.cells #[.int .i64 0, .int .i64 0, .int .i64 0, .slice none 0 0] 35) = W at *
  refine (source_any W.heap.size a0 cap0 zs W (Nat.le_refl _) hl hu (h.below hb0)).mono ?_
  rintro e w1 ⟨rfl, hS, hb1⟩
  replace R0 := R0.below hb1
  replace hb0 := hb0.trans (hb1.mono hb0.size)
  generalize hSB : W.heap.size = b at *
  have hlt := hS.lt
  go_wp2_with fail
  refine (l8Bent_any b b 0 w1 hS (by omega)).mono ?_
  rintro e w2 ⟨va, pa, rfl, hpl, hpa, hRa, hSn, hg2⟩
  replace hS := hSn
  have HPA : Hid (∀ p ∈ pa, p.d.acts.length ≤ 5) := hpa
  clear hpa hSn
  obtain ⟨aa1, ca1, rfl⟩ := own_shape hRa.1
  go_wp2_with fail
  refine (l2Draw_any b b (0 + 200) w2 hS (by omega)).mono ?_
  rintro e w4 ⟨i, s, q, a, c, xs, rfl, hx1, hx3, ho, hSn, hgn⟩
  replace hRa := hRa.src hlt.2 hgn
  have hg4 := hg2.trans hgn
  replace R0 := R0.grown hg4 (by simp only [ne_eq, Option.some.injEq]; omega)
  have hbF : Below w.heap.size w w4 := hb0.grown hg4 hb0.size (fun k hk => by simp at hk; omega)
  have q0 := R0.cell 0 _ rfl
  have q1 := R0.cell 1 _ rfl
  have q2 := R0.cell 2 _ rfl
  have q3 := R0.cell 3 _ rfl
  have f0 := R0.frozen 0
  have f1 := R0.frozen 1
  have f2 := R0.frozen 2
  have f3 := R0.frozen 3
  have k0 := hbF.setCell (p := ⟨w.heap.size, 0, none⟩) (Nat.le_refl _) (.int .i64 i)
  have k1 := k0.setCell (p := ⟨w.heap.size, 1, none⟩) (Nat.le_refl _) (.int .i64 s)
  have k2 := k1.setCell (p := ⟨w.heap.size, 2, none⟩) (Nat.le_refl _) (.int .i64 q)
  have k3 := k2.setCell (p := ⟨w.heap.size, 3, none⟩) (Nat.le_refl _) (.slice a xs.length c)
  have HK : Hid _ := k3
  have o0 := hRa.atK
  have HRA : Hid (∀ w', Out [w.heap.size] w4 w' → txnK.At w' (.slice aa1 pa.length ca1) (pa.map TxnP.qk)) := fun w' ho => by
    have hO := hRa.ownK
    refine (hO.out ho (fun k hk hk' => ?_)).at
    simp only [List.mem_singleton] at hk'
    subst hk'
    have hd := hRa.lowfp
    have := hd _ hk
    omega
  have HC := hRa.cap
  have HC' : Hid (CapOk (.slice aa1 pa.length ca1)) := HC
  clear k0 k1 k2 k3 o0 HC hRa hbF hg4 hg2 hgn hSn ho hS
  go_wp2
  refine bodyPost_ret (v := .tuple #[.slice aa1 pa.length ca1, .agg #[.int .i64 i, .int .i64 s, .int .i64 q, .slice a xs.length c]]) (by simp [results, Try.results15, go_sem, q0, q1, q2, q3]) rfl ?_
  refine ⟨_, _, i, s, q, a, c, xs, rfl, HRA.out _ ?_, HC'.out, by rw [List.length_map]; omega, qk_acts HPA.out, HK.out⟩
  exact ((((Out.refl _ _).set (by simp)).set (by simp)).set (by simp)).set (by simp)


end Go.Proofs.Ytbdphnmkpkgdeaa

/- Instances laid anew that share nothing: of the program and of its model. -/
import Derived.Test.YtjnkldlkbjldcaaGreatDoorI6m
import Derived.Test.YtjnkldlkbjldcaaGreatDoorM6g
import Derived.Test.YtjnkldlkbjldcaaGreatDoorKIs
namespace Go.Proofs.YtjnkldlkbjldcaaGreatDoor
open Go.RowKit
open Go.BigFrame
set_option linter.unusedVariables false
set_option maxRecDepth 100000
set_option linter.unusedSimpArgs false

theorem cloneInts_any (v : Value) (zs : List Int) (w : World) (h : intK.At w v zs) (h0 : 0 < zs.length) (hl : zs.length ≤ 1048576) :
    Calls Tryz.prog 189 #[v] w fun e w' => ∃ a c, e = .returned (.slice a zs.length c) ∧ intK.Own w' (.slice a zs.length c) zs ∧ (∀ k ∈ intK.fp (.slice a zs.length c) zs, w.heap.size ≤ k) ∧ Below w.heap.size w w' := by
  obtain ⟨a, cap, rfl⟩ := h.shape
  have hR := (intK_at h).2
  obtain ⟨b, off, rfl, _⟩ := hR 0 h0
  refine (cloneI_any b off cap zs w hR h0 hl).mono ?_
  rintro e w2 ⟨a2, c2, rfl, ho, hb⟩
  obtain ⟨O, G⟩ := list_own rfl ho
  exact ⟨a2, c2, rfl, O, G, hb⟩

set_option maxHeartbeats 4000000 in
theorem cloneRounds_any (v : Value) (ps : List RoundQ) (w : World) (h : roundK.At w v ps) (hne : ∀ p ∈ ps, 0 < p.rep.length ∧ 0 < p.pro.length) (hl : ps.length + nmL RoundQ.n ps ≤ 1048576) :
    Calls Tryz.prog 233 #[v] w fun e w' => ∃ v' qs, e = .returned v' ∧ qs.map RoundQ.e = ps.map RoundQ.e ∧ roundK.Own w' v' qs ∧ (roundK.fp v' qs).Nodup ∧ (∀ k ∈ roundK.fp v' qs, w.heap.size ≤ k) ∧ Below w.heap.size w w' := by
  obtain ⟨a, cap, rfl⟩ := h.shape
  obtain ⟨i0, hi, hz0, hz1, hz2⟩ := info_parts infoRound
  obtain ⟨hn1, hn2⟩ := Kind.own_nil (K := roundK) w
  have HN0 : Hid ((roundK.fp (.slice none 0 0) ([] : List RoundQ)).Nodup ∧ ∀ k ∈ roundK.fp (.slice none 0 0) ([] : List RoundQ), w.heap.size ≤ k) := by
    rw [hn2]
    exact ⟨by simp, by simp⟩
  clear hn2
  go_enter Tryz.func233, Tryz.ntmps233
  go_wp2
  go_loopw [3, 8] (fun v j wr => ∃ (k : Nat) (qs : List RoundQ), k ≤ ps.length ∧ j = .int .i64 k ∧ Hid (qs.map RoundQ.e = (ps.take k).map RoundQ.e) ∧ roundK.Own wr v qs ∧ Hid ((roundK.fp v qs).Nodup ∧ ∀ k ∈ roundK.fp v qs, w.heap.size ≤ k) ∧ Below w.heap.size w wr) (fun _ j _ => ps.length - (intOf j).toNat)
  case atStart => exact ⟨0, [], Nat.zero_le _, rfl, (rfl : _ = _), hn1, HN0, Below.refl _ _⟩
  case round =>
    clear HN0 hn1
    obtain ⟨k, qs, hk, rfl, HE, hO, HN, hb⟩ := hrel
    obtain ⟨sa, sc, rfl⟩ := hO.shape
    have HQL : Hid (qs.length = k) := by
      have := congrArg List.length HE.out
      rw [List.length_map, List.length_map, List.length_take] at this
      show qs.length = k
      omega
    by_cases hlt : k < ps.length
    · obtain ⟨b, off, rfl, hbs, hc, hrd⟩ := (h.below hb).cell (by decide) k hlt
      have hc' : ∀ j x, (roundK.cells ps[k])[j]? = some x → wr.cell? ⟨b, off + k * 2 + j, none⟩ = some x := hc
      have c0 := hc' 0 (ps[k].vr) rfl
      have c1 := hc' 1 (ps[k].vp) rfl
      have hzl := nm_le RoundQ.n ps k hlt
      have hpos := hne _ (List.getElem_mem hlt)
      have HPE : Hid (∀ p' : RoundQ, p'.e = RoundQ.e ps[k] → (qs ++ [p']).map RoundQ.e = (ps.take (k + 1)).map RoundQ.e) := fun p' hp' => by
        rw [List.take_succ_eq_append_getElem hlt, List.map_append, List.map_append, HE.out, List.map_singleton, List.map_singleton, hp']
      clear hc hc'
      generalize ps[k] = p at *
      obtain ⟨vr, rp, vp, pp⟩ := p
      obtain ⟨r1, r2⟩ : intK.At wr vr rp ∧ intK.At wr vp pp := hrd
      replace hzl : rp.length + pp.length ≤ nmL RoundQ.n ps := hzl
      obtain ⟨ra, rk, rfl⟩ := r1.shape
      obtain ⟨pa, pk, rfl⟩ := r2.shape
      dsimp only at c0 c1 hpos
      have hb3r : Below wr.heap.size wr (wr.alloc (.cells #[.slice ra rp.length rk, .slice pa pp.length pk] 144)) := by go_grown
      have hB3 := Blk.new wr 144 #[.slice ra rp.length rk, .slice pa pp.length pk]
      have HF : Hid (∀ x ∈ roundK.fp (.slice sa qs.length sc) qs, x < wr.heap.size) := hO.lt
      rw [Nat.add_zero] at c0
      replace hO := hO.below hb3r
      have r3 := r1.below hb3r
      have r4 := r2.below hb3r
      have hb3 := hb.trans (hb3r.mono hb.size)
      have hcl1 := fun w h => cloneInts_any (.slice ra rp.length rk) rp w h hpos.1 (by omega)
      have hcl2 := fun w h => cloneInts_any (.slice pa pp.length pk) pp w h hpos.2 (by omega)
      clear HE
      go_wp2_with fail
      clear c0 c1 r1 r2 hb
      generalize wr.alloc (.cells #[.slice ra rp.length rk, .slice pa pp.length pk] 144) = W3 at *
      clear hb3r
      have hF : wr.heap.size ∉ blk (.slice sa qs.length sc) := fun hx => by
        have := HF.out _ (by simp only [Kind.fp, List.mem_append]; exact Or.inl hx)
        omega
      have p0 := lato_cell (F := blk (.slice sa qs.length sc)) (hB3.cell 0 _ rfl) hF
      have p1 := lato_cell (F := blk (.slice sa qs.length sc)) (hB3.cell 1 _ rfl) hF
      have hnn : Nonempty (LatO (blk (.slice sa qs.length sc)) W3) := ⟨⟨W3, Out.refl _ _⟩⟩
      have hW : Below W3.heap.size W3 W3.drew := (Below.refl _ _).drew
      have hnw : ∀ w', Below W3.heap.size W3 w' → ∃ u : LatO (blk (.slice sa qs.length sc)) W3, w' = u.val := fun w' hw' => ⟨⟨w', Out.of_below hw'⟩, rfl⟩
      refine text_begin (S := fun w' => ∃ u : LatO (blk (.slice sa qs.length sc)) W3, w' = u.val) (by kernel_rfl) ?_
      refine seg_range [(0, 3), (4, 2)] 6 (by kernel_rfl) (by kernel_rfl) (by kernel_rfl) (by kernel_rfl) (by kernel_rfl) (hnw _ hW) ?_
      simp only [pickR, List.toList_toArray, List.flatMap_cons, List.flatMap_nil, List.drop_succ_cons, List.drop_zero, List.take_succ_cons, List.take_zero, List.cons_append, List.nil_append, List.append_nil]
      repeat go_big_quiet_step (fail)
      refine wpQuiet_nil ?_
      refine call_at 3 (some 15) 189 #[.slice ra rp.length rk] 5 (by kernel_rfl) (by kernel_rfl) (by kernel_rfl) (by kernel_rfl) (by kernel_rfl) ?_
      refine (hcl1 _ (r3.below hW)).mono ?_
      rintro e w8 ⟨a1, c1, rfl, o1, g1, hb8⟩
      have L1 : ∀ x ∈ intK.fp (.slice a1 rp.length c1) rp, W3.heap.size ≤ x := fun x hx => by have := g1 x hx; have := hW.size; omega
      have M1 := o1.lt
      replace hW := hW.trans (hb8.mono hW.size)
      clear hb8 g1
      refine ⟨_, rfl, hnw _ hW, ?_⟩
      simp only [Act.put, List.setIfInBounds_toArray, List.set_cons_zero, List.set_cons_succ]
      refine call_at 6 (some 18) 189 #[.slice pa pp.length pk] 4 (by kernel_rfl) (by kernel_rfl) (by kernel_rfl) (by kernel_rfl) (by kernel_rfl) ?_
      refine (hcl2 _ (r4.below hW)).mono ?_
      rintro e w9 ⟨a2, c2, rfl, o2, g2, hb9⟩
      have L2 : ∀ x ∈ intK.fp (.slice a2 pp.length c2) pp, W3.heap.size ≤ x := fun x hx => by have := g2 x hx; have := hW.size; omega
      have hdis : ∀ x ∈ intK.fp (.slice a1 rp.length c1) rp, ∀ y ∈ intK.fp (.slice a2 pp.length c2) pp, x ≠ y := fun x hx y hy e => by have := M1 x hx; have := g2 y hy; omega
      replace hW := hW.trans (hb9.mono hW.size)
      replace o1 := o1.below hb9
      clear hb9 g2 M1 hcl1 hcl2 r3 r4
      refine ⟨_, rfl, hnw _ hW, ?_⟩
      simp only [Act.put, List.setIfInBounds_toArray, List.set_cons_zero, List.set_cons_succ]
      refine quiet_at 7 (some 19) (.agg #[.slice a1 rp.length c1, .slice a2 pp.length c2]) 3 (by kernel_rfl) (by kernel_rfl) (by kernel_rfl) (by kernel_rfl) (by kernel_rfl) (fun u _ => by kernel_rfl) (hnw _ hW) ?_
      simp only [Act.put, List.setIfInBounds_toArray, List.set_cons_zero, List.set_cons_succ]
      refine one_at 8 _ 2 (by kernel_rfl) rfl (by kernel_rfl) ?_
      have hbA : Below w9.heap.size w9 (w9.alloc (.cells #[.slice a1 rp.length c1, .slice a2 pp.length c2] 144)) := by go_grown
      replace hW := hW.trans (hbA.mono hW.size)
      replace o1 := o1.below hbA
      replace o2 := o2.below hbA
      have hsrc : ∀ j u, [Value.slice a1 rp.length c1, .slice a2 pp.length c2][j]? = some u → (w9.alloc (.cells #[.slice a1 rp.length c1, .slice a2 pp.length c2] 144)).cell? ((⟨w9.heap.size, 0, none⟩ : Addr).add j) = some u := by
        intro j u hj; match j, hj with | 0, hj => simp at hj; subst hj; simp [Addr.add] | 1, hj => simp at hj; subst hj; simp [Addr.add]
      go_wp2
      refine ThenGo.to ⟨hnw _ hW, ?_⟩
      generalize w9.alloc (.cells #[.slice a1 rp.length c1, .slice a2 pp.length c2] 144) = Z at *
      clear hbA
      have hO3 := hO.below hW
      have hb9 := hb3.trans (hW.mono hb3.size)
      have hrow0 := hO3.1
      refine one_at 9 _ 1 (by kernel_rfl) rfl (by kernel_rfl) ?_
      refine wpList_append_own_at _ rfl _ _ 25 rfl 0 144 i0 (.agg #[.slice none 0 0, .slice none 0 0]) 2 48 Tryz.underlying25 hi hz0 hz1 hz2 rfl (by decide) _ qs.length (roundK.row qs) rfl hrow0 ⟨w9.heap.size, 0, none⟩ 1 1 [.slice a1 rp.length c1, .slice a2 pp.length c2] rfl rfl hsrc ?c2 ?c3 ?c4 ?c5 ?_
      case c2 => intro u hu; simp at hu; rcases hu with rfl | rfl <;> rfl
      case c3 => have := HQL.out; unfold maxLen; omega
      case c4 => have := HQL.out; omega
      case c5 => omega
      intro v' w5 hown hgrow hnil hat
      clear hnil hrow0 hsrc
      have hW3 : wr.heap.size ≤ W3.heap.size := by have := hB3.lt; omega
      obtain ⟨hO5, hn5, hlo5, hou⟩ := hO3.snoc (p := ⟨.slice a1 rp.length c1, rp, .slice a2 pp.length c2, pp⟩) HN.out.1 HN.out.2 ⟨o1, o2⟩ (List.nodup_append.2 ⟨intK_nodup _ _, intK_nodup _ _, hdis⟩) (fun x hx hx' => by
        have := HF.out x hx'
        rcases List.mem_append.1 hx with hx | hx
        · have := L1 x hx; omega
        · have := L2 x hx; omega) (fun x hx => by
        have := hb3.size
        rcases List.mem_append.1 hx with hx | hx
        · have := L1 x hx; omega
        · have := L2 x hx; omega) hb9.size hown hgrow hat
      have hb5 : Below w.heap.size w w5 := Out.keep hb9 hou hb9.size (fun x hx => HN.out.2 x (by simp only [Kind.fp, List.mem_append]; exact Or.inl hx))
      have hW5 : Out (blk (.slice sa qs.length sc)) W3 w5 := (Out.of_below hW).trans hou
      have HE5 : Hid ((qs ++ [(⟨.slice a1 rp.length c1, rp, .slice a2 pp.length c2, pp⟩ : RoundQ)]).map RoundQ.e = (ps.take (k + 1)).map RoundQ.e) := HPE.out _ rfl
      have HN5 : Hid ((roundK.fp v' (qs ++ [(⟨.slice a1 rp.length c1, rp, .slice a2 pp.length c2, pp⟩ : RoundQ)])).Nodup ∧ ∀ k ∈ roundK.fp v' (qs ++ [(⟨.slice a1 rp.length c1, rp, .slice a2 pp.length c2, pp⟩ : RoundQ)]), w.heap.size ≤ k) := ⟨hn5, hlo5⟩
      clear hn5 hlo5 hou HPE HN HF o1 o2 L1 L2 hdis hown hgrow hat hO3 hO hb9 hb3
      go_wp2
      refine ThenGo.to ⟨⟨⟨_, hW5⟩, rfl⟩, ?_⟩
      simp only [Act.put, List.getElem_toArray, List.getElem_cons_succ, List.getElem_cons_zero, List.setIfInBounds_toArray, List.set_cons_zero, List.set_cons_succ]
      refine seg_range [(10, 1)] 0 (by kernel_rfl) (by kernel_rfl) (by kernel_rfl) (by kernel_rfl) (by kernel_rfl) ⟨⟨_, hW5⟩, rfl⟩ ?_
      simp only [pickR, List.toList_toArray, List.flatMap_cons, List.flatMap_nil, List.drop_succ_cons, List.drop_zero, List.take_succ_cons, List.take_zero, List.cons_append, List.nil_append, List.append_nil]
      repeat go_big_quiet_step (fail)
      refine wpQuiet_nil ?_
      refine text_end (by kernel_rfl) ?_
      clear p0 p1 hnn hW hW5 hnw hB3 hF
      go_wp2
      go_roundw
      case rel => exact ⟨k + 1, _, by omega, by go_num, HE5, hO5, HN5, hb5⟩
      case measure => simp [intOf]; omega
    · have hkl : k = ps.length := by omega
      subst hkl
      have hE := HE.out
      rw [List.take_length] at hE
      clear HE
      go_wp2
      go_ret
      exact ⟨_, qs, rfl, hE, hO, HN.out.1, HN.out.2, hb⟩

set_option maxHeartbeats 4000000 in
theorem cloneInstance_any (p : InstQ) (w : World) (h : instK.rd w p) (hl : p.n ≤ 1048576) (hne : ∀ t ∈ p.batch, 0 < t.acts.length) (hro : ∀ r ∈ p.rounds, 0 < r.rep.length ∧ 0 < r.pro.length) (hd0 : 0 < p.dec.length) :
    Calls Tryz.prog 200 #[.agg #[.bool p.has, p.vb, p.vr, p.vd]] w fun e w' => ∃ q : InstQ, e = .returned (.agg #[.bool q.has, q.vb, q.vr, q.vd]) ∧ q.e = p.e ∧ instK.own w' q ∧ (instK.foot q).Nodup ∧ (∀ k ∈ instK.foot q, w.heap.size ≤ k) ∧ Below w.heap.size w w' := by
  obtain ⟨has, vb, batch, vr, rounds, vd, dec⟩ := p
  obtain ⟨h1, h2, h3⟩ : txnK.At w vb batch ∧ roundK.At w vr rounds ∧ intK.At w vd dec := h
  dsimp only [InstQ.n] at hl hne hro hd0
  have hc1 := fun w hT => cloneTxns_any vb batch w hT hne (by omega)
  have hc2 := fun w hT => cloneRounds_any vr rounds w hT hro (by omega)
  have hc3 := fun w hT => cloneInts_any vd dec w hT hd0 (by omega)
  obtain ⟨ba, bk, rfl⟩ := h1.shape
  obtain ⟨va, vk, rfl⟩ := h2.shape
  obtain ⟨da, dk, rfl⟩ := h3.shape
  have hb0 : Below w.heap.size w ((w.alloc (.cells #[.bool has, .slice ba batch.length bk, .slice va rounds.length vk, .slice da dec.length dk] 28)).alloc (.cells #[.bool false, .slice none 0 0, .slice none 0 0, .slice none 0 0] 28)) := by go_grown
  have B := (Blk.new w 28 #[.bool has, .slice ba batch.length bk, .slice va rounds.length vk, .slice da dec.length dk]).below (w' := ((w.alloc (.cells #[.bool has, .slice ba batch.length bk, .slice va rounds.length vk, .slice da dec.length dk] 28)).alloc (.cells #[.bool false, .slice none 0 0, .slice none 0 0, .slice none 0 0] 28))) (by go_grown)
  have R := Blk.new (w.alloc (.cells #[.bool has, .slice ba batch.length bk, .slice va rounds.length vk, .slice da dec.length dk] 28)) 28 #[.bool false, .slice none 0 0, .slice none 0 0, .slice none 0 0]
  rw [World.size_alloc] at R
  go_enter Tryz.func200, Tryz.ntmps200
  go_wp2_with fail
  have hws : w.heap.size + 2 ≤ ((w.alloc (.cells #[.bool has, .slice ba batch.length bk, .slice va rounds.length vk, .slice da dec.length dk] 28)).alloc (.cells #[.bool false, .slice none 0 0, .slice none 0 0, .slice none 0 0] 28)).heap.size := by simp
  generalize ((w.alloc (.cells #[.bool has, .slice ba batch.length bk, .slice va rounds.length vk, .slice da dec.length dk] 28)).alloc (.cells #[.bool false, .slice none 0 0, .slice none 0 0, .slice none 0 0] 28)) = W at *
  have hF : w.heap.size ∉ [w.heap.size + 1] := by simp
  have p0 := lato_cell (F := [w.heap.size + 1]) (B.cell 0 _ rfl) hF
  have p1 := lato_cell (F := [w.heap.size + 1]) (B.cell 1 _ rfl) hF
  have p2 := lato_cell (F := [w.heap.size + 1]) (B.cell 2 _ rfl) hF
  have p3 := lato_cell (F := [w.heap.size + 1]) (B.cell 3 _ rfl) hF
  have hnn : Nonempty (LatO [w.heap.size + 1] W) := ⟨⟨W, Out.refl _ _⟩⟩
  have hW : Below W.heap.size W W.drew := (Below.refl _ _).drew
  have hnw : ∀ w', Below W.heap.size W w' → ∃ u : LatO [w.heap.size + 1] W, w' = u.val := fun w' hw' => ⟨⟨w', Out.of_below hw'⟩, rfl⟩
  refine text_begin (S := fun w' => ∃ u : LatO [w.heap.size + 1] W, w' = u.val) (by kernel_rfl) ?_
  refine seg_range [(0, 4), (5, 2), (8, 2)] 5 (by kernel_rfl) (by kernel_rfl) (by kernel_rfl) (by kernel_rfl) (by kernel_rfl) (hnw _ hW) ?_
  simp only [pickR, List.toList_toArray, List.flatMap_cons, List.flatMap_nil, List.drop_succ_cons, List.drop_zero, List.take_succ_cons, List.take_zero, List.cons_append, List.nil_append, List.append_nil]
  repeat go_big_quiet_step (fail)
  refine wpQuiet_nil ?_
  refine call_at 4 (some 7) 139 #[.slice ba batch.length bk] 4 (by kernel_rfl) (by kernel_rfl) (by kernel_rfl) (by kernel_rfl) (by kernel_rfl) ?_
  refine (hc1 _ (h1.below (hb0.trans (hW.mono hb0.size)))).mono ?_
  rintro e w1 ⟨v1, q1, rfl, e1, o1, n1, g1, hb⟩
  have L1 : ∀ x ∈ txnK.fp v1 q1, W.heap.size ≤ x := fun x hx => by have := g1 x hx; have := hW.size; omega
  have M1 := o1.lt
  replace hW := hW.trans (hb.mono hW.size)
  clear hb g1
  refine ⟨_, rfl, hnw _ hW, ?_⟩
  simp only [Act.put, List.setIfInBounds_toArray, List.set_cons_zero, List.set_cons_succ]
  refine call_at 7 (some 10) 233 #[.slice va rounds.length vk] 3 (by kernel_rfl) (by kernel_rfl) (by kernel_rfl) (by kernel_rfl) (by kernel_rfl) ?_
  refine (hc2 _ (h2.below (hb0.trans (hW.mono hb0.size)))).mono ?_
  rintro e w2 ⟨v2, q2, rfl, e2, o2, n2, g2, hb⟩
  have L2 : ∀ x ∈ roundK.fp v2 q2, W.heap.size ≤ x := fun x hx => by have := g2 x hx; have := hW.size; omega
  have D12 : ∀ x ∈ txnK.fp v1 q1, ∀ y ∈ roundK.fp v2 q2, x ≠ y := fun x hx y hy e => by have := M1 x hx; have := g2 y hy; omega
  have M2 := o2.lt
  have hs12 := hb.size
  replace o1 := o1.below hb
  replace hW := hW.trans (hb.mono hW.size)
  clear hb g2
  refine ⟨_, rfl, hnw _ hW, ?_⟩
  simp only [Act.put, List.setIfInBounds_toArray, List.set_cons_zero, List.set_cons_succ]
  refine call_at 10 (some 13) 189 #[.slice da dec.length dk] 2 (by kernel_rfl) (by kernel_rfl) (by kernel_rfl) (by kernel_rfl) (by kernel_rfl) ?_
  refine (hc3 _ (h3.below (hb0.trans (hW.mono hb0.size)))).mono ?_
  rintro e w3 ⟨a3, c3, rfl, o3, g3, hb⟩
  have L3 : ∀ x ∈ intK.fp (.slice a3 dec.length c3) dec, W.heap.size ≤ x := fun x hx => by have := g3 x hx; have := hW.size; omega
  have D13 : ∀ x ∈ txnK.fp v1 q1, ∀ y ∈ intK.fp (.slice a3 dec.length c3) dec, x ≠ y := fun x hx y hy e => by have := M1 x hx; have := g3 y hy; omega
  have D23 : ∀ x ∈ roundK.fp v2 q2, ∀ y ∈ intK.fp (.slice a3 dec.length c3) dec, x ≠ y := fun x hx y hy e => by have := M2 x hx; have := g3 y hy; omega
  replace o1 := o1.below hb
  replace o2 := o2.below hb
  replace hW := hW.trans (hb.mono hW.size)
  clear hb g3 M1 M2 hs12
  obtain ⟨s1, t1, rfl⟩ := o1.shape
  obtain ⟨s2, t2, rfl⟩ := o2.shape
  refine ⟨_, rfl, hnw _ hW, ?_⟩
  simp only [Act.put, List.setIfInBounds_toArray, List.set_cons_zero, List.set_cons_succ]
  refine quiet_at 11 (some 14) (.agg #[.bool has, .slice s1 q1.length t1, .slice s2 q2.length t2, .slice a3 dec.length c3]) 1 (by kernel_rfl) (by kernel_rfl) (by kernel_rfl) (by kernel_rfl) (by kernel_rfl) (fun u _ => by kernel_rfl) (hnw _ hW) ?_
  simp only [Act.put, List.setIfInBounds_toArray, List.set_cons_zero, List.set_cons_succ]
  have R3 := R.below hW
  refine one_at 12 _ 0 (by kernel_rfl) rfl (by kernel_rfl) ?_
  have hRr := R3.row #[.bool has, .slice s1 q1.length t1, .slice s2 q2.length t2, .slice a3 dec.length c3]
  have hou := out_row w3 (w.heap.size + 1) #[.bool has, .slice s1 q1.length t1, .slice s2 q2.length t2, .slice a3 dec.length c3]
  have hWo : Out [w.heap.size + 1] W (w3.setRow (w.heap.size + 1) #[.bool has, .slice s1 q1.length t1, .slice s2 q2.length t2, .slice a3 dec.length c3]) := (Out.of_below hW).trans hou
  refine st_row (by kernel_rfl) 28 _ _ rfl _ #[.bool has, .slice s1 q1.length t1, .slice s2 q2.length t2, .slice a3 dec.length c3] rfl rfl 28 _ R3 sz_inst rfl (by simp [Value.oneCell']) ?_
  go_wp2
  refine ThenGo.to ⟨⟨⟨_, hWo⟩, rfl⟩, ?_⟩
  refine text_end (by kernel_rfl) ?_
  have hnm : ∀ x, W.heap.size ≤ x → x ∉ [w.heap.size + 1] := fun x hx => by simp only [List.mem_singleton]; omega
  have o1' := o1.out hou (fun x hx => hnm x (L1 x hx))
  have o2' := o2.out hou (fun x hx => hnm x (L2 x hx))
  have o3' := o3.out hou (fun x hx => hnm x (L3 x hx))
  have hBe : Below w.heap.size w (w3.setRow (w.heap.size + 1) #[.bool has, .slice s1 q1.length t1, .slice s2 q2.length t2, .slice a3 dec.length c3]) := below_row (hb0.trans (hW.mono hb0.size)) (by omega) _
  clear p0 p1 p2 p3 hnn hnw hc1 hc2 hc3 hou hWo o1 o2 o3 R3
  generalize w3.setRow (w.heap.size + 1) #[.bool has, .slice s1 q1.length t1, .slice s2 q2.length t2, .slice a3 dec.length c3] = w4 at *
  have p0 := hRr.cell 0 _ rfl
  have p1 := hRr.cell 1 _ rfl
  have p2 := hRr.cell 2 _ rfl
  have p3 := hRr.cell 3 _ rfl
  go_wp2
  refine bodyPost_ret (v := .agg #[.bool has, .slice s1 q1.length t1, .slice s2 q2.length t2, .slice a3 dec.length c3]) (by simp [results, Tryz.results200, go_sem, p0, p1, p2, p3]) rfl ?_
  refine ⟨⟨has, .slice s1 q1.length t1, q1, .slice s2 q2.length t2, q2, .slice a3 dec.length c3, dec⟩, rfl, ?_, ⟨o1', o2', o3'⟩, ?_, ?_, hBe⟩
  · simp only [InstQ.e, e1, e2]
  · exact List.nodup_append.2 ⟨n1, List.nodup_append.2 ⟨n2, intK_nodup _ _, D23⟩, fun x hx y hy => by
      rcases List.mem_append.1 hy with hy | hy
      · exact D12 x hx y hy
      · exact D13 x hx y hy⟩
  · intro x hx
    rcases List.mem_append.1 hx with hx | hx
    · have := L1 x hx; omega
    · rcases List.mem_append.1 hx with hx | hx
      · have := L2 x hx; omega
      · have := L3 x hx; omega

set_option maxHeartbeats 4000000 in
theorem cloneOrder_any (v : Value) (ps : List InstQ) (w : World) (h : instK.At w v ps) (hlow : (∀ p ∈ ps, (∀ t ∈ p.batch, 0 < t.acts.length) ∧ (∀ r ∈ p.rounds, 0 < r.rep.length ∧ 0 < r.pro.length) ∧ 0 < p.dec.length)) (hl : (ps.length + nmL InstQ.n ps) ≤ 1048576) :
    Calls Tryz.prog 136 #[v] w fun e w' => ∃ v' qs, e = .returned v' ∧ qs.map InstQ.e = ps.map InstQ.e ∧ instK.Own w' v' qs ∧ (instK.fp v' qs).Nodup ∧ (∀ k ∈ instK.fp v' qs, w.heap.size ≤ k) ∧ Below w.heap.size w w' := by
  obtain ⟨a, cap, rfl⟩ := h.shape
  obtain ⟨i0, hi, hz0, hz1, hz2⟩ := info_parts infoInstance
  obtain ⟨hn1, hn2⟩ := Kind.own_nil (K := instK) w
  have HN0 : Hid ((instK.fp (.slice none 0 0) ([] : List InstQ)).Nodup ∧ ∀ k ∈ instK.fp (.slice none 0 0) ([] : List InstQ), w.heap.size ≤ k) := by
    rw [hn2]
    exact ⟨by simp, by simp⟩
  have hb0 : Below w.heap.size w w := Below.refl _ _
  clear hn2
  go_enter Tryz.func136, Tryz.ntmps136
  go_wp2
  go_loopw [3, 8] (fun v j wr => ∃ (k : Nat) (qs : List InstQ), k ≤ ps.length ∧ j = .int .i64 k ∧ Hid (qs.map InstQ.e = (ps.take k).map InstQ.e) ∧ instK.Own wr v qs ∧ Hid ((instK.fp v qs).Nodup ∧ ∀ k ∈ instK.fp v qs, w.heap.size ≤ k) ∧ Below w.heap.size w wr) (fun _ j _ => ps.length - (intOf j).toNat)
  case atStart => exact ⟨0, [], Nat.zero_le _, rfl, (rfl : _ = _), hn1, HN0, hb0⟩
  case round =>
    clear HN0 hn1 hb0
    obtain ⟨k, qs, hk, rfl, HE, hO, HN, hb⟩ := hrel
    obtain ⟨sa, sc, rfl⟩ := hO.shape
    have HQL : Hid (qs.length = k) := by
      have := congrArg List.length HE.out
      rw [List.length_map, List.length_map, List.length_take] at this
      show qs.length = k
      omega
    by_cases hlt : k < ps.length
    · obtain ⟨b, off, rfl, hbs, hc, hrd⟩ := (h.below hb).cell (by decide) k hlt
      have hc' : ∀ j x, (instK.cells ps[k])[j]? = some x → wr.cell? ⟨b, off + k * 4 + j, none⟩ = some x := hc
      have c0 := hc' 0 (.bool ps[k].has) rfl
      have c1 := hc' 1 ps[k].vb rfl
      have c2 := hc' 2 ps[k].vr rfl
      have c3 := hc' 3 ps[k].vd rfl
      rw [Nat.add_zero] at c0
      have hzl := nm_le InstQ.n ps k hlt
      have hlow1 := hlow _ (List.getElem_mem hlt)
      have HPE : Hid (∀ p' : InstQ, p'.e = InstQ.e ps[k] → (qs ++ [p']).map InstQ.e = (ps.take (k + 1)).map InstQ.e) := fun p' hp' => by
        rw [List.take_succ_eq_append_getElem hlt, List.map_append, List.map_append, HE.out, List.map_singleton, List.map_singleton, hp']
      clear hc hc'
      have hcl0 := cloneInstance_any ps[k]
      have hcl := fun w h => hcl0 w h (by omega) hlow1.1 hlow1.2.1 hlow1.2.2
      clear hcl0 HE
      generalize ps[k] = p at *
      obtain ⟨has, vb, batch, vr, rounds, vd, dec⟩ := p
      obtain ⟨ba, bk, rfl⟩ : ∃ a c, vb = .slice a batch.length c := hrd.1.shape
      obtain ⟨va, vk, rfl⟩ : ∃ a c, vr = .slice a rounds.length c := hrd.2.1.shape
      obtain ⟨da, dk, rfl⟩ : ∃ a c, vd = .slice a dec.length c := hrd.2.2.shape
      dsimp only at c0 c1 c2 c3 hcl
      have hbY : Below wr.heap.size wr (wr.alloc (.cells #[.bool has, .slice ba batch.length bk, .slice va rounds.length vk, .slice da dec.length dk] 28)) := by go_grown
      have rdY := instK.rd_below hrd hbY
      replace hO := hO.below hbY
      replace hb := hb.trans (hbY.mono hb.size)
      go_wp2_with fail
      clear c0 c1 c2 c3 hbY
      generalize wr.alloc (.cells #[.bool has, .slice ba batch.length bk, .slice va rounds.length vk, .slice da dec.length dk] 28) = Y at *
      have HLT : Hid (∀ x ∈ instK.fp (.slice sa qs.length sc) qs, x < Y.heap.size) := hO.lt
      have HYS : Hid (w.heap.size ≤ Y.heap.size) := hb.size
      refine (hcl Y rdY).mono ?_
      rintro e w2 ⟨q, rfl, eq, oq, nq, gq, hb2⟩
      replace hO := hO.below hb2
      replace hb := hb.trans (hb2.mono hb.size)
      have h2s := hb2.size
      clear hcl hb2
      obtain ⟨qh, qvb, qb, qvr, qr, qvd, qd⟩ := q
      obtain ⟨x1, y1, rfl⟩ : ∃ a c, qvb = .slice a qb.length c := oq.1.shape
      obtain ⟨x2, y2, rfl⟩ : ∃ a c, qvr = .slice a qr.length c := oq.2.1.shape
      obtain ⟨x3, y3, rfl⟩ : ∃ a c, qvd = .slice a qd.length c := oq.2.2.shape
      have hbA : Below w2.heap.size w2 (w2.alloc (.cells #[.bool qh, .slice x1 qb.length y1, .slice x2 qr.length y2, .slice x3 qd.length y3] 28)) := by go_grown
      have hOA := hO.below hbA
      have hPA := instK.own_out (F := []) oq (Out.of_below hbA) (fun _ _ => by simp)
      have hbB := hb.trans (hbA.mono hb.size)
      have hYA : Y.heap.size ≤ (w2.alloc (.cells #[.bool qh, .slice x1 qb.length y1, .slice x2 qr.length y2, .slice x3 qd.length y3] 28)).heap.size := by have := hbA.size; omega
      clear hO oq
      have hrow0 := hOA.1
      go_wp2_with (at_builtin; refine wpList_append_own_at _ rfl _ _ 84 rfl 0 28 i0 (.agg #[.bool false, .slice none 0 0, .slice none 0 0, .slice none 0 0]) 4 80 Tryz.underlying84 hi hz0 hz1 hz2 rfl (by decide) _ qs.length (instK.row qs) rfl hrow0 ⟨w2.heap.size, 0, none⟩ 1 1 [.bool qh, .slice x1 qb.length y1, .slice x2 qr.length y2, .slice x3 qd.length y3] rfl rfl ?c1 ?c2 ?c3 ?c4 ?c5 ?_)
      all_goals try (case c1 => intro j u hj; match j, hj with | 0, hj => simp at hj; subst hj; simp [Addr.add] | 1, hj => simp at hj; subst hj; simp [Addr.add] | 2, hj => simp at hj; subst hj; simp [Addr.add] | 3, hj => simp at hj; subst hj; simp [Addr.add])
      all_goals try (case c2 => intro u hu; simp at hu; rcases hu with rfl | rfl | rfl | rfl <;> rfl)
      all_goals try (case c3 => have := HQL.out; unfold maxLen; omega)
      all_goals try (case c4 => have := HQL.out; omega)
      all_goals try (case c5 => first | omega | simp)
      intro v' w5 hown hgrow hnil hat
      clear hnil hrow0
      rw [show w2.heap.size + 1 = (w2.alloc (.cells #[.bool qh, .slice x1 qb.length y1, .slice x2 qr.length y2, .slice x3 qd.length y3] 28)).heap.size from (World.size_alloc _ _).symm] at hat
      generalize hwA : w2.alloc (.cells #[.bool qh, .slice x1 qb.length y1, .slice x2 qr.length y2, .slice x3 qd.length y3] 28) = WA at *
      clear hwA
      obtain ⟨hO5, hn5, hlo5, hou⟩ := hOA.snoc (p := (⟨qh, .slice x1 qb.length y1, qb, .slice x2 qr.length y2, qr, .slice x3 qd.length y3, qd⟩ : InstQ)) HN.out.1 HN.out.2 hPA nq (fun x hx hx' => by have := HLT.out x hx'; have := gq x hx; omega) (fun x hx => by have := gq x hx; have := HYS.out; omega) hbB.size hown hgrow hat
      have hb5 : Below w.heap.size w w5 := Out.keep hbB hou hbB.size (fun x hx => HN.out.2 x (by simp only [Kind.fp, List.mem_append]; exact Or.inl hx))
      have HE5 : Hid ((qs ++ [(⟨qh, .slice x1 qb.length y1, qb, .slice x2 qr.length y2, qr, .slice x3 qd.length y3, qd⟩ : InstQ)]).map InstQ.e = (ps.take (k + 1)).map InstQ.e) := HPE.out _ eq
      have HN5 : Hid ((instK.fp v' (qs ++ [(⟨qh, .slice x1 qb.length y1, qb, .slice x2 qr.length y2, qr, .slice x3 qd.length y3, qd⟩ : InstQ)])).Nodup ∧ ∀ k ∈ instK.fp v' (qs ++ [(⟨qh, .slice x1 qb.length y1, qb, .slice x2 qr.length y2, qr, .slice x3 qd.length y3, qd⟩ : InstQ)]), w.heap.size ≤ k) := ⟨hn5, hlo5⟩
      clear HPE HN HLT HYS hPA hOA hbB hown hgrow hat hou hn5 hlo5 hrd hb hbA hzl hlow1 hYA gq nq eq
      go_wp2
      go_roundw
      case rel => exact ⟨k + 1, _, by omega, by go_num, HE5, hO5, HN5, hb5⟩
      case measure => simp [intOf]; omega
    · have hkl : k = ps.length := by omega
      subst hkl
      have hE := HE.out
      rw [List.take_length] at hE
      clear HE
      go_wp2
      go_ret
      exact ⟨_, qs, rfl, hE, hO, HN.out.1, HN.out.2, hb⟩

end Go.Proofs.YtjnkldlkbjldcaaGreatDoor

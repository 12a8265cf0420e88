/- Texts joined, with what the law reaches alone. -/
import Derived.Test.YtmgkjcobdmdjmaaGreatDoorYND
import Derived.Test.YtmgkjcobdmdjmaaGreatDoorYNG
import Derived.Test.YtmgkjcobdmdjmaaGreatDoorYNH
namespace Go.Proofs.YtmgkjcobdmdjmaaGreatDoor
open Go.RowKit
open Go.BigFrame
set_option linter.unusedVariables false
set_option maxRecDepth 100000
set_option linter.unusedSimpArgs false
theorem infoInstance : (Tryz.prog.info? 28).map (fun i => (i.zero, i.size, i.bytes)) = some (some (.agg #[.bool false, .slice none 0 0, .slice none 0 0, .slice none 0 0]), 4, 80) := by kernel_rfl

set_option maxHeartbeats 1000000 in
theorem szInstances_k (v : Value) (ps : List InstQ) (c : Int) (w : World) (h : instK.At w v ps) (hn : ps.length ≤ 9223372036854775807) (hn1 : ∀ p ∈ ps, InstQ.wf p) (h0 : 0 ≤ c) (h1 : c ≤ 1048576) :
    Calls Tryz.prog 35 #[v, .int .i64 c] w fun e w' => ∃ r : Int, e = .returned (.int .i64 r) ∧ (¬ r < 0 → ((ps.length + nmL InstQ.n ps : Nat) : Int) + r = c) ∧ Below w.heap.size w w' := by
  obtain ⟨a, cap, rfl⟩ := h.shape
  by_cases hbig : c - ps.length < 0
  · go_enter Tryz.func35, Tryz.ntmps35
    go_wp2
    go_ret
    exact ⟨_, rfl, fun h => by omega, Below.refl _ _⟩
  · go_enter Tryz.func35, Tryz.ntmps35
    go_wp2
    go_loopw [1, 5] (fun l i wr => ∃ (k : Nat) (x : Int), k ≤ ps.length ∧ i = .int .i64 k ∧ l = .int .i64 x ∧ 0 ≤ x ∧ x ≤ 1048576 ∧ Hid (ps.length + nmL InstQ.n (ps.take k) + x = c) ∧ Below w.heap.size w wr) (fun _ i _ => ps.length - (intOf i).toNat)
    case atStart => exact ⟨0, c - ps.length, Nat.zero_le _, rfl, by go_num, by omega, by omega, show _ = _ by simp [nmL]; omega, Below.refl _ _⟩
    case round =>
      obtain ⟨k, x, hk, rfl, rfl, hx0, hx1, HS, hb⟩ := hrel
      by_cases hlt : k < ps.length
      · obtain ⟨b, off, rfl, hbs, hc, hrd⟩ := (h.below hb).cell (by decide) k hlt
        have hc' : ∀ j x, (instK.cells ps[k])[j]? = some x → wr.cell? ⟨b, off + k * 4 + j, none⟩ = some x := hc
        have c0 := hc' 0 (.bool ps[k].has) rfl
        have c1 := hc' 1 (ps[k].vb) rfl
        have c2 := hc' 2 (ps[k].vr) rfl
        have c3 := hc' 3 (ps[k].vd) rfl
        have hs := nmL_succ InstQ.n ps k hlt
        have HN := hn1 _ (List.getElem_mem hlt)
        have HS' : Hid (∀ y : Int, (InstQ.n ps[k] : Int) + y = x → ps.length + nmL InstQ.n (ps.take (k + 1)) + y = c) := by
          intro y hy
          have := HS.out
          omega
        clear HS hs hc hc'
        generalize ps[k] = p at *
        have hsz := szInstance_k p x wr hrd HN hx0 hx1
        generalize InstQ.n p = m at *
        rw [Nat.add_zero] at c0
        go_wp2_with fail
        refine hsz.mono ?_
        rintro e w2 ⟨r, rfl, hr, hb2⟩
        replace hb := hb.trans (hb2.mono hb.size)
        clear hb2 hsz c0 c1 c2 c3
        by_cases hneg : r < 0
        · go_wp2
          go_ret
          exact ⟨_, rfl, fun h => by omega, hb⟩
        · have hrx := hr (by omega)
          have HR : Hid (ps.length + nmL InstQ.n (ps.take (k + 1)) + r = c) := HS'.out r hrx
          have hr1 : r ≤ 1048576 := by omega
          clear HS' hr hrx
          go_wp2
          go_roundw
          case rel => exact ⟨k + 1, r, by omega, by go_num, rfl, by omega, hr1, HR.out, hb⟩
          case measure => simp [intOf]; omega
      · have hkl : k = ps.length := by omega
        subst hkl
        rw [List.take_length] at HS
        go_wp2
        go_ret
        exact ⟨_, rfl, fun _ => by have := HS.out; omega, hb⟩

set_option maxHeartbeats 2000000 in
theorem eqInstances_k (v v' : Value) (ps qs : List InstQ) (w : World) (h : instK.At w v ps) (h' : instK.At w v' qs) (he : ps.map InstQ.e = qs.map InstQ.e) (hl : (ps.length + nmL InstQ.n ps) ≤ 1048576) :
    Calls Tryz.prog 38 #[v, v'] w fun e w' => e = .returned (.bool true) ∧ Below w.heap.size w w' := by
  obtain ⟨a, cap, rfl⟩ := h.shape
  obtain ⟨a', cap', rfl⟩ := h'.shape
  have hlen : qs.length = ps.length := by
    have := congrArg List.length he
    simpa using this.symm
  rw [hlen] at h' ⊢
  have HL : Hid (qs.length = ps.length) := hlen
  clear hlen
  go_enter Tryz.func38, Tryz.ntmps38
  go_wp2
  go_loopw [5] (fun i wr => ∃ k : Nat, k ≤ ps.length ∧ i = .int .i64 k ∧ Below w.heap.size w wr) (fun i _ => ps.length - (intOf i).toNat)
  case atStart => exact ⟨0, Nat.zero_le _, rfl, Below.refl _ _⟩
  case round =>
    obtain ⟨k, hk, rfl, hb⟩ := hrel
    by_cases hlt : k < ps.length
    · have hlt' : k < qs.length := by have := HL.out; omega
      obtain ⟨b, off, rfl, hbs, hc, hrd⟩ := (h.below hb).cell (by decide) k hlt
      obtain ⟨b', off', rfl, hbs', hd, hrd'⟩ := (h'.below hb).cell (by decide) k hlt'
      have hc' : ∀ j x, (instK.cells ps[k])[j]? = some x → wr.cell? ⟨b, off + k * 4 + j, none⟩ = some x := hc
      have hd' : ∀ j x, (instK.cells qs[k])[j]? = some x → wr.cell? ⟨b', off' + k * 4 + j, none⟩ = some x := hd
      have c0 := hc' 0 (.bool ps[k].has) rfl
      have d0 := hd' 0 (.bool qs[k].has) rfl
      have c1 := hc' 1 (ps[k].vb) rfl
      have d1 := hd' 1 (qs[k].vb) rfl
      have c2 := hc' 2 (ps[k].vr) rfl
      have d2 := hd' 2 (qs[k].vr) rfl
      have c3 := hc' 3 (ps[k].vd) rfl
      have d3 := hd' 3 (qs[k].vd) rfl
      have hee : InstQ.e ps[k] = InstQ.e qs[k] := by
        have := congrArg (·[k]?) he
        simpa [hlt, hlt'] using this
      have hzl := nm_le InstQ.n ps k hlt
      clear hc hc' hd hd'
      generalize ps[k] = p at *
      generalize qs[k] = p' at *
      have hEQ := fun w h1 h2 => eqInstance_k p p' w h1 h2 hee (show InstQ.n p ≤ 1048576 by omega)
      clear hee hzl
      rw [Nat.add_zero] at c0 d0
      have k0 := lat_cell c0
      have l0 := lat_cell d0
      have k1 := lat_cell c1
      have l1 := lat_cell d1
      have k2 := lat_cell c2
      have l2 := lat_cell d2
      have k3 := lat_cell c3
      have l3 := lat_cell d3
      clear c0 d0 c1 d1 c2 d2 c3 d3
      have hW : Below wr.heap.size wr wr.drew := (Below.refl _ _).drew
      have hne : Nonempty (Lat wr) := ⟨⟨wr, Below.refl _ _⟩⟩
      go_wp2_with fail
      refine text_begin (S := fun w' => ∃ u : Lat wr, w' = u.val) (by kernel_rfl) ?_
      refine seg_range [(0, 8)] 2 (by kernel_rfl) (by kernel_rfl) (by kernel_rfl) (by kernel_rfl) (by kernel_rfl) ⟨⟨_, hW⟩, rfl⟩ ?_
      simp only [pickR, List.toList_toArray, List.flatMap_cons, List.flatMap_nil, List.drop_succ_cons, List.drop_zero, List.take_succ_cons, List.take_zero, List.cons_append, List.nil_append, List.append_nil]
      repeat go_big_quiet_step (fail)
      refine wpQuiet_nil ?_
      refine call_at 8 (some 25) 53 #[.agg #[.bool p.has, p.vb, p.vr, p.vd], .agg #[.bool p'.has, p'.vb, p'.vr, p'.vd]] 1 (by kernel_rfl) (by kernel_rfl) (by kernel_rfl) (by kernel_rfl) (by kernel_rfl) ?_
      refine (hEQ _ (instK.rd_below hrd hW) (instK.rd_below hrd' hW)).mono ?_
      rintro e w2 ⟨rfl, hb2⟩
      replace hW := hW.trans (hb2.mono hW.size)
      clear hb2
      refine ⟨_, rfl, ⟨⟨_, hW⟩, rfl⟩, ?_⟩
      simp only [Act.put, List.setIfInBounds_toArray, List.set_cons_zero, List.set_cons_succ]
      refine seg_range [(9, 1)] 0 (by kernel_rfl) (by kernel_rfl) (by kernel_rfl) (by kernel_rfl) (by kernel_rfl) ⟨⟨_, hW⟩, rfl⟩ ?_
      simp only [pickR, List.toList_toArray, List.flatMap_cons, List.flatMap_nil, List.drop_succ_cons, List.drop_zero, List.take_succ_cons, List.take_zero, List.cons_append, List.nil_append, List.append_nil]
      repeat go_big_quiet_step (fail)
      refine wpQuiet_nil ?_
      refine text_end (by kernel_rfl) ?_
      replace hb := hb.trans (hW.mono hb.size)
      clear k0 l0 k1 l1 k2 l2 k3 l3 hW hne hrd hrd' hEQ
      go_wp2
      go_roundw
      case rel => exact ⟨k + 1, by omega, by go_num, hb⟩
      case measure => simp [intOf]; omega
    · go_wp2
      go_ret
      exact ⟨rfl, hb⟩

set_option maxHeartbeats 2000000 in
theorem toInstances_k (v : Value) (ps : List InstQ) (w : World) (h : instK.At w v ps) (hl : (ps.length + nmL InstQ.n ps) ≤ 1048576) :
    Calls Tryz.prog 37 #[v] w fun e w' => ∃ v' qs, e = .returned v' ∧ qs.map InstQ.e = ps.map InstQ.e ∧ instK.Own w' v' qs ∧ (instK.fp v' qs).Nodup ∧ (∀ k ∈ instK.fp v' qs, w.heap.size ≤ k) ∧ Below w.heap.size w w' := by
  obtain ⟨a, cap, rfl⟩ := h.shape
  obtain ⟨i0, hi, hz0, hz1, hz2⟩ := info_parts infoInstance
  have hbytes : i0.bytes * ps.length ≤ 281474976710656 := by rw [hz2]; omega
  have hmax : ps.length ≤ maxLen := by unfold maxLen; omega
  go_enter Tryz.func37, Tryz.ntmps37
  go_wp2_with (at_make; refine wpList_make_full _ rfl _ _ 49 rfl w.heap.size 28 i0 (.agg #[.bool false, .slice none 0 0, .slice none 0 0, .slice none 0 0]) 4 Tryz.underlying49 hi hz0 hz1 _ _ _ _ ps.length rfl rfl rfl rfl hbytes hmax (Nat.le_refl _) ?_)
  intro w1 hown hgrow
  have hb1 : Below w.heap.size w w1 := (Below.refl _ _).grown hgrow (Nat.le_refl _) (by simp)
  have hO : instK.Own w1 (.slice (some ⟨w.heap.size, 0, none⟩) ps.length ps.length) (List.replicate ps.length (⟨false, .slice none 0 0, [], .slice none 0 0, [], .slice none 0 0, []⟩ : InstQ)) := by
    refine ⟨?_, fun p hp => ?_⟩
    · rw [List.length_replicate, ← made_row (⟨false, .slice none 0 0, [], .slice none 0 0, [], .slice none 0 0, []⟩ : InstQ) _ (by decide)]
      exact own_base hown (Nat.zero_le _)
    · rw [(List.mem_replicate.1 hp).2]
      exact ⟨⟨World.ownsRow_nil _ _ _ _, fun p hp => by simp at hp⟩, ⟨World.ownsRow_nil _ _ _ _, fun p hp => by simp at hp⟩, ⟨World.ownsRow_nil _ _ _ _, fun p hp => by simp at hp⟩⟩
  have hF : instK.fp (.slice (some ⟨w.heap.size, 0, none⟩) ps.length ps.length) (List.replicate ps.length (⟨false, .slice none 0 0, [], .slice none 0 0, [], .slice none 0 0, []⟩ : InstQ)) = [w.heap.size] := fp_new rfl
  have HN : Hid ((instK.fp (.slice (some ⟨w.heap.size, 0, none⟩) ps.length ps.length) (List.replicate ps.length (⟨false, .slice none 0 0, [], .slice none 0 0, [], .slice none 0 0, []⟩ : InstQ))).Nodup) := by rw [hF]; show List.Nodup _; simp
  have HG : Hid (∀ x ∈ instK.fp (.slice (some ⟨w.heap.size, 0, none⟩) ps.length ps.length) (List.replicate ps.length (⟨false, .slice none 0 0, [], .slice none 0 0, [], .slice none 0 0, []⟩ : InstQ)), w.heap.size ≤ x) := by rw [hF]; intro x hx; simp at hx; omega
  have HZ : Hid (∀ j (hj : j < (List.replicate ps.length (⟨false, .slice none 0 0, [], .slice none 0 0, [], .slice none 0 0, []⟩ : InstQ)).length), 0 ≤ j → (List.replicate ps.length (⟨false, .slice none 0 0, [], .slice none 0 0, [], .slice none 0 0, []⟩ : InstQ))[j] = (⟨false, .slice none 0 0, [], .slice none 0 0, [], .slice none 0 0, []⟩ : InstQ)) := fun j hj _ => by simp
  have hql : (List.replicate ps.length (⟨false, .slice none 0 0, [], .slice none 0 0, [], .slice none 0 0, []⟩ : InstQ)).length = ps.length := by simp
  clear hown hgrow hF
  generalize List.replicate ps.length (⟨false, .slice none 0 0, [], .slice none 0 0, [], .slice none 0 0, []⟩ : InstQ) = qs0 at *
  have HE : Hid ((qs0.take 0).map InstQ.e = (ps.take 0).map InstQ.e) := show _ = _ by simp
  go_wp2
  go_loopw [4] (fun i wr => ∃ (k : Nat) (qs : List InstQ), k ≤ ps.length ∧ i = .int .i64 k ∧ Hid (qs.length = ps.length) ∧ Hid ((qs.take k).map InstQ.e = (ps.take k).map InstQ.e) ∧ Hid (∀ j (hj : j < qs.length), k ≤ j → qs[j] = (⟨false, .slice none 0 0, [], .slice none 0 0, [], .slice none 0 0, []⟩ : InstQ)) ∧ instK.Own wr (.slice (some ⟨w.heap.size, 0, none⟩) ps.length ps.length) qs ∧
    Hid ((instK.fp (.slice (some ⟨w.heap.size, 0, none⟩) ps.length ps.length) qs).Nodup) ∧ Hid (∀ x ∈ instK.fp (.slice (some ⟨w.heap.size, 0, none⟩) ps.length ps.length) qs, w.heap.size ≤ x) ∧ Below w.heap.size w wr) (fun i _ => ps.length - (intOf i).toNat)
  case atStart => exact ⟨0, qs0, Nat.zero_le _, rfl, hql, HE, HZ, hO, HN, HG, hb1⟩
  case round =>
    clear HE HZ hO HN HG hb1 hql
    obtain ⟨k, qs, hk, rfl, HQ, HE, HZ, hO, HN, HG, hb⟩ := hrel
    by_cases hlt : k < ps.length
    · have hltq : k < qs.length := by have := HQ.out; omega
      have hzk := HZ.out k hltq (Nat.le_refl _)
      obtain ⟨b, off, rfl, hbs, hc, hrd⟩ := (h.below hb).cell (by decide) k hlt
      have hc' : ∀ j x, (instK.cells ps[k])[j]? = some x → wr.cell? ⟨b, off + k * 4 + j, none⟩ = some x := hc
      have c0 := hc' 0 (.bool ps[k].has) rfl
      have c1 := hc' 1 (ps[k].vb) rfl
      have c2 := hc' 2 (ps[k].vr) rfl
      have c3 := hc' 3 (ps[k].vd) rfl
      have hzl := nm_le InstQ.n ps k hlt
      have HPE : Hid (∀ p' : InstQ, p'.e = InstQ.e ps[k] → ((qs.set k p').take (k + 1)).map InstQ.e = (ps.take (k + 1)).map InstQ.e) := by
        intro p' hp'
        have h1 := HE.out
        rw [List.take_succ_eq_append_getElem hlt, List.take_succ_eq_append_getElem (show k < (qs.set k p').length by simpa using hltq)]
        simp only [List.map_append, List.map_cons, List.map_nil, List.getElem_set_self, hp', List.take_set_of_le (Nat.le_refl k), h1]
      clear hc hc'
      generalize ps[k] = p at *
      have hto := toInstance_k p wr hrd (by omega)
      rw [Nat.add_zero] at c0
      go_wp2_with fail
      refine hto.mono ?_
      rintro e w2 ⟨p', rfl, hpe, hown', hnd', hlo', hb2⟩
      obtain ⟨x0, x1, y1, x2, y2, x3, y3⟩ := p'
      obtain ⟨o1, o2, o3⟩ : txnK.Own w2 x1 y1 ∧ roundK.Own w2 x2 y2 ∧ intK.Own w2 x3 y3 := And.intro hown'.1 hown'.2
      obtain ⟨a1, b1, rfl⟩ := o1.shape
      obtain ⟨a2, b2, rfl⟩ := o2.shape
      obtain ⟨a3, b3, rfl⟩ := o3.shape
      clear o1 o2 o3
      dsimp only
      generalize hP : (⟨x0, .slice a1 y1.length b1, y1, .slice a2 y2.length b2, y2, .slice a3 y3.length b3, y3⟩ : InstQ) = p' at hpe hown' hnd' hlo'
      have hcp : instK.cells p' = [.bool x0, .slice a1 y1.length b1, .slice a2 y2.length b2, .slice a3 y3.length b3] := by rw [← hP]; rfl
      have hO2 := hO.below hb2
      obtain ⟨e0, f0⟩ := hO2.cell k hltq 0 _ (by rw [hzk]; rfl)
      obtain ⟨e1, f1⟩ := hO2.cell k hltq 1 _ (by rw [hzk]; rfl)
      obtain ⟨e2, f2⟩ := hO2.cell k hltq 2 _ (by rw [hzk]; rfl)
      obtain ⟨e3, f3⟩ := hO2.cell k hltq 3 _ (by rw [hzk]; rfl)
      have hkk : ∀ j, k * instK.size + j = k * 4 + j := fun j => rfl
      rw [hkk] at e0 f0 e1 f1 e2 f2 e3 f3
      rw [Nat.add_zero] at e0 f0
      have hrow0 := hO2.1
      have hQ := HQ.out
      rw [hQ] at hrow0
      have hrow := own_setFrom hrow0 (k * 4) [.bool x0, .slice a1 y1.length b1, .slice a2 y2.length b2, .slice a3 y3.length b3]
      rw [← hcp] at hrow
      have hfp : ∀ x ∈ instK.fp (.slice (some ⟨w.heap.size, 0, none⟩) ps.length ps.length) qs, x < wr.heap.size := hO.lt
      have hg0 : w.heap.size ∈ instK.fp (.slice (some ⟨w.heap.size, 0, none⟩) ps.length ps.length) qs := by simp [Kind.fp, blk, Value.ownBlock]
      have hgl : w.heap.size < wr.heap.size := hfp _ hg0
      have hNq := HN.out
      have hdis : ∀ x ∈ instK.foot p', x ∉ instK.fp (.slice (some ⟨w.heap.size, 0, none⟩) ps.length ps.length) qs := fun x hx hxx => by have := hlo' x hx; have := hfp x hxx; omega
      have hput : instK.Own ((((w2.setCell ⟨w.heap.size, k * 4, none⟩ (.bool x0)).setCell ⟨w.heap.size, k * 4 + 1, none⟩ (.slice a1 y1.length b1)).setCell ⟨w.heap.size, k * 4 + 2, none⟩ (.slice a2 y2.length b2)).setCell ⟨w.heap.size, k * 4 + 3, none⟩ (.slice a3 y3.length b3)) (.slice (some ⟨w.heap.size, 0, none⟩) ps.length ps.length) (qs.set k p') := by
        refine Kind.Own.put hO2 k hltq p' ?_ ((((Out.setCell _ _ _ _).trans (Out.setCell _ _ _ _)).trans (Out.setCell _ _ _ _)).trans (Out.setCell _ _ _ _)) ?_ hown' ?_
        · rw [hQ]
          rw [hcp] at hrow ⊢
          exact hrow
        · intro q hq x hx hxe
          simp only [Kind.fp, blk, Value.ownBlock, Option.toList, List.cons_append, List.nil_append, List.nodup_cons] at hNq
          exact hNq.1 (List.mem_flatMap.2 ⟨q, hq, hxe ▸ hx⟩)
        · intro x hx hxe
          have := hlo' x hx
          omega
      have R : Hid (instK.Own ((((w2.setCell ⟨w.heap.size, k * 4, none⟩ (.bool x0)).setCell ⟨w.heap.size, k * 4 + 1, none⟩ (.slice a1 y1.length b1)).setCell ⟨w.heap.size, k * 4 + 2, none⟩ (.slice a2 y2.length b2)).setCell ⟨w.heap.size, k * 4 + 3, none⟩ (.slice a3 y3.length b3)) (.slice (some ⟨w.heap.size, 0, none⟩) ps.length ps.length) (qs.set k p') ∧ Below w.heap.size w ((((w2.setCell ⟨w.heap.size, k * 4, none⟩ (.bool x0)).setCell ⟨w.heap.size, k * 4 + 1, none⟩ (.slice a1 y1.length b1)).setCell ⟨w.heap.size, k * 4 + 2, none⟩ (.slice a2 y2.length b2)).setCell ⟨w.heap.size, k * 4 + 3, none⟩ (.slice a3 y3.length b3))) := by
        refine ⟨hput, ?_⟩
        have hbb := hb.trans (hb2.mono hb.size)
        exact ((((hbb.setCell (p := ⟨w.heap.size, k * 4, none⟩) (Nat.le_refl _) _).setCell (p := ⟨w.heap.size, k * 4 + 1, none⟩) (Nat.le_refl _) _).setCell (p := ⟨w.heap.size, k * 4 + 2, none⟩) (Nat.le_refl _) _).setCell (p := ⟨w.heap.size, k * 4 + 3, none⟩) (Nat.le_refl _) _)
      have R1 : Hid ((instK.fp (.slice (some ⟨w.heap.size, 0, none⟩) ps.length ps.length) (qs.set k p')).Nodup) := nodup_put hNq k hltq p' (by rw [hzk]; rfl) hnd' hdis
      have R2 : Hid (∀ x ∈ instK.fp (.slice (some ⟨w.heap.size, 0, none⟩) ps.length ps.length) (qs.set k p'), w.heap.size ≤ x) := by
        intro x hx
        simp only [Kind.fp, List.mem_append] at hx
        rcases hx with hx | hx
        · exact HG.out x (by simp only [Kind.fp, List.mem_append]; exact Or.inl hx)
        · rcases mem_foot_set hltq hx with hx | hx
          · exact HG.out x (by simp only [Kind.fp, List.mem_append]; exact Or.inr hx)
          · have := hlo' x hx
            omega
      have R3 : Hid (∀ j (hj : j < (qs.set k p').length), k + 1 ≤ j → (qs.set k p')[j] = (⟨false, .slice none 0 0, [], .slice none 0 0, [], .slice none 0 0, []⟩ : InstQ)) := fun j hj hkj => by
        rw [List.getElem_set_ne (by omega)]
        exact HZ.out j (by simpa using hj) (by omega)
      have R4 : Hid ((qs.set k p').length = ps.length) := by rw [List.length_set]; exact HQ.out
      have R5 : Hid (((qs.set k p').take (k + 1)).map InstQ.e = (ps.take (k + 1)).map InstQ.e) := HPE.out p' hpe
      clear hput hrow hrow0 hQ hO2 hO HN HG HZ HE HQ HPE hNq hdis hown' hnd' hlo' hfp hg0 hb hzk hrd hto hpe hkk hcp hP
      go_wp2
      go_roundw
      case rel => exact ⟨k + 1, qs.set k p', by omega, by go_num, R4.out, R5.out, R3.out, R.out.1, R1.out, R2.out, R.out.2⟩
      case measure => simp [intOf]; omega
    · have hkl : k = ps.length := by omega
      subst hkl
      have hQ := HQ.out
      have hE := HE.out
      rw [List.take_length, List.take_of_length_le (by omega)] at hE
      clear HE HZ
      go_wp2
      go_ret
      exact ⟨_, qs, rfl, hE, hO, HN.out, HG.out, hb⟩

end Go.Proofs.YtmgkjcobdmdjmaaGreatDoor
namespace Go.Proofs.YtmgkjcobdmdjmaaGreatDoor
open Go.RowKit
open Go.BigFrame
set_option linter.unusedVariables false
set_option maxRecDepth 100000
set_option linter.unusedSimpArgs false
theorem cloneInts_any (v : Value) (zs : List Int) (w : World) (h : intK.At w v zs) (h0 : 0 < zs.length) (hl : zs.length ≤ 1048576) :
    Calls Tryz.prog 137 #[v] w fun e w' => ∃ a c, e = .returned (.slice a zs.length c) ∧ intK.Own w' (.slice a zs.length c) zs ∧ (∀ k ∈ intK.fp (.slice a zs.length c) zs, w.heap.size ≤ k) ∧ Below w.heap.size w w' := by
  obtain ⟨a, cap, rfl⟩ := h.shape
  have hR := (intK_at h).2
  obtain ⟨b, off, rfl, _⟩ := hR 0 h0
  refine (cloneI_any b off cap zs w hR h0 hl).mono ?_
  rintro e w2 ⟨a2, c2, rfl, ho, hb⟩
  obtain ⟨O, G⟩ := list_own rfl ho
  exact ⟨a2, c2, rfl, O, G, hb⟩

set_option maxHeartbeats 4000000 in
theorem cloneRounds_any (v : Value) (ps : List RoundQ) (w : World) (h : roundK.At w v ps) (hne : ∀ p ∈ ps, 0 < p.rep.length ∧ 0 < p.pro.length) (hl : ps.length + nmL RoundQ.n ps ≤ 1048576) :
    Calls Tryz.prog 152 #[v] w fun e w' => ∃ v' qs, e = .returned v' ∧ qs.map RoundQ.e = ps.map RoundQ.e ∧ roundK.Own w' v' qs ∧ (roundK.fp v' qs).Nodup ∧ (∀ k ∈ roundK.fp v' qs, w.heap.size ≤ k) ∧ Below w.heap.size w w' := by
  obtain ⟨a, cap, rfl⟩ := h.shape
  obtain ⟨i0, hi, hz0, hz1, hz2⟩ := info_parts infoRound
  obtain ⟨hn1, hn2⟩ := Kind.own_nil (K := roundK) w
  have HN0 : Hid ((roundK.fp (.slice none 0 0) ([] : List RoundQ)).Nodup ∧ ∀ k ∈ roundK.fp (.slice none 0 0) ([] : List RoundQ), w.heap.size ≤ k) := by
    rw [hn2]
    exact ⟨by simp, by simp⟩
  clear hn2
  go_enter Tryz.func152, Tryz.ntmps152
  go_wp2
  go_loopw [3, 8] (fun v j wr => ∃ (k : Nat) (qs : List RoundQ), k ≤ ps.length ∧ j = .int .i64 k ∧ Hid (qs.map RoundQ.e = (ps.take k).map RoundQ.e) ∧ roundK.Own wr v qs ∧ Hid ((roundK.fp v qs).Nodup ∧ ∀ k ∈ roundK.fp v qs, w.heap.size ≤ k) ∧ Below w.heap.size w wr) (fun _ j _ => ps.length - (intOf j).toNat)
  case atStart => exact ⟨0, [], Nat.zero_le _, rfl, (rfl : _ = _), hn1, HN0, Below.refl _ _⟩
  case round =>
    clear HN0 hn1
    obtain ⟨k, qs, hk, rfl, HE, hO, HN, hb⟩ := hrel
    obtain ⟨sa, sc, rfl⟩ := hO.shape
    have HQL : Hid (qs.length = k) := by
      have := congrArg List.length HE.out
      rw [List.length_map, List.length_map, List.length_take] at this
      show qs.length = k
      omega
    by_cases hlt : k < ps.length
    · obtain ⟨b, off, rfl, hbs, hc, hrd⟩ := (h.below hb).cell (by decide) k hlt
      have hc' : ∀ j x, (roundK.cells ps[k])[j]? = some x → wr.cell? ⟨b, off + k * 2 + j, none⟩ = some x := hc
      have c0 := hc' 0 (ps[k].vr) rfl
      have c1 := hc' 1 (ps[k].vp) rfl
      have hzl := nm_le RoundQ.n ps k hlt
      have hpos := hne _ (List.getElem_mem hlt)
      have HPE : Hid (∀ p' : RoundQ, p'.e = RoundQ.e ps[k] → (qs ++ [p']).map RoundQ.e = (ps.take (k + 1)).map RoundQ.e) := fun p' hp' => by
        rw [List.take_succ_eq_append_getElem hlt, List.map_append, List.map_append, HE.out, List.map_singleton, List.map_singleton, hp']
      clear hc hc'
      generalize ps[k] = p at *
      obtain ⟨vr, rp, vp, pp⟩ := p
      obtain ⟨r1, r2⟩ : intK.At wr vr rp ∧ intK.At wr vp pp := hrd
      replace hzl : rp.length + pp.length ≤ nmL RoundQ.n ps := hzl
      obtain ⟨ra, rk, rfl⟩ := r1.shape
      obtain ⟨pa, pk, rfl⟩ := r2.shape
      dsimp only at c0 c1 hpos
      have hb3r : Below wr.heap.size wr (wr.alloc (.cells #[.slice ra rp.length rk, .slice pa pp.length pk] 125)) := by go_grown
      have hB3 := Blk.new wr 125 #[.slice ra rp.length rk, .slice pa pp.length pk]
      have HF : Hid (∀ x ∈ roundK.fp (.slice sa qs.length sc) qs, x < wr.heap.size) := hO.lt
      rw [Nat.add_zero] at c0
      replace hO := hO.below hb3r
      have r3 := r1.below hb3r
      have r4 := r2.below hb3r
      have hb3 := hb.trans (hb3r.mono hb.size)
      have hcl1 := fun w h => cloneInts_any (.slice ra rp.length rk) rp w h hpos.1 (by omega)
      have hcl2 := fun w h => cloneInts_any (.slice pa pp.length pk) pp w h hpos.2 (by omega)
      clear HE
      go_wp2_with fail
      clear c0 c1 r1 r2 hb
      generalize wr.alloc (.cells #[.slice ra rp.length rk, .slice pa pp.length pk] 125) = W3 at *
      clear hb3r
      have hF : wr.heap.size ∉ blk (.slice sa qs.length sc) := fun hx => by
        have := HF.out _ (by simp only [Kind.fp, List.mem_append]; exact Or.inl hx)
        omega
      have p0 := lato_cell (F := blk (.slice sa qs.length sc)) (hB3.cell 0 _ rfl) hF
      have p1 := lato_cell (F := blk (.slice sa qs.length sc)) (hB3.cell 1 _ rfl) hF
      have hnn : Nonempty (LatO (blk (.slice sa qs.length sc)) W3) := ⟨⟨W3, Out.refl _ _⟩⟩
      have hW : Below W3.heap.size W3 W3.drew := (Below.refl _ _).drew
      have hnw : ∀ w', Below W3.heap.size W3 w' → ∃ u : LatO (blk (.slice sa qs.length sc)) W3, w' = u.val := fun w' hw' => ⟨⟨w', Out.of_below hw'⟩, rfl⟩
      refine text_begin (S := fun w' => ∃ u : LatO (blk (.slice sa qs.length sc)) W3, w' = u.val) (by kernel_rfl) ?_
      refine seg_range [(0, 3), (4, 2)] 6 (by kernel_rfl) (by kernel_rfl) (by kernel_rfl) (by kernel_rfl) (by kernel_rfl) (hnw _ hW) ?_
      simp only [pickR, List.toList_toArray, List.flatMap_cons, List.flatMap_nil, List.drop_succ_cons, List.drop_zero, List.take_succ_cons, List.take_zero, List.cons_append, List.nil_append, List.append_nil]
      repeat go_big_quiet_step (fail)
      refine wpQuiet_nil ?_
      refine call_at 3 (some 15) 137 #[.slice ra rp.length rk] 5 (by kernel_rfl) (by kernel_rfl) (by kernel_rfl) (by kernel_rfl) (by kernel_rfl) ?_
      refine (hcl1 _ (r3.below hW)).mono ?_
      rintro e w8 ⟨a1, c1, rfl, o1, g1, hb8⟩
      have L1 : ∀ x ∈ intK.fp (.slice a1 rp.length c1) rp, W3.heap.size ≤ x := fun x hx => by have := g1 x hx; have := hW.size; omega
      have M1 := o1.lt
      replace hW := hW.trans (hb8.mono hW.size)
      clear hb8 g1
      refine ⟨_, rfl, hnw _ hW, ?_⟩
      simp only [Act.put, List.setIfInBounds_toArray, List.set_cons_zero, List.set_cons_succ]
      refine call_at 6 (some 18) 137 #[.slice pa pp.length pk] 4 (by kernel_rfl) (by kernel_rfl) (by kernel_rfl) (by kernel_rfl) (by kernel_rfl) ?_
      refine (hcl2 _ (r4.below hW)).mono ?_
      rintro e w9 ⟨a2, c2, rfl, o2, g2, hb9⟩
      have L2 : ∀ x ∈ intK.fp (.slice a2 pp.length c2) pp, W3.heap.size ≤ x := fun x hx => by have := g2 x hx; have := hW.size; omega
      have hdis : ∀ x ∈ intK.fp (.slice a1 rp.length c1) rp, ∀ y ∈ intK.fp (.slice a2 pp.length c2) pp, x ≠ y := fun x hx y hy e => by have := M1 x hx; have := g2 y hy; omega
      replace hW := hW.trans (hb9.mono hW.size)
      replace o1 := o1.below hb9
      clear hb9 g2 M1 hcl1 hcl2 r3 r4
      refine ⟨_, rfl, hnw _ hW, ?_⟩
      simp only [Act.put, List.setIfInBounds_toArray, List.set_cons_zero, List.set_cons_succ]
      refine quiet_at 7 (some 19) (.agg #[.slice a1 rp.length c1, .slice a2 pp.length c2]) 3 (by kernel_rfl) (by kernel_rfl) (by kernel_rfl) (by kernel_rfl) (by kernel_rfl) (fun u _ => by kernel_rfl) (hnw _ hW) ?_
      simp only [Act.put, List.setIfInBounds_toArray, List.set_cons_zero, List.set_cons_succ]
      refine one_at 8 _ 2 (by kernel_rfl) rfl (by kernel_rfl) ?_
      have hbA : Below w9.heap.size w9 (w9.alloc (.cells #[.slice a1 rp.length c1, .slice a2 pp.length c2] 125)) := by go_grown
      replace hW := hW.trans (hbA.mono hW.size)
      replace o1 := o1.below hbA
      replace o2 := o2.below hbA
      have hsrc : ∀ j u, [Value.slice a1 rp.length c1, .slice a2 pp.length c2][j]? = some u → (w9.alloc (.cells #[.slice a1 rp.length c1, .slice a2 pp.length c2] 125)).cell? ((⟨w9.heap.size, 0, none⟩ : Addr).add j) = some u := by
        intro j u hj; match j, hj with | 0, hj => simp at hj; subst hj; simp [Addr.add] | 1, hj => simp at hj; subst hj; simp [Addr.add]
      go_wp2
      refine ThenGo.to ⟨hnw _ hW, ?_⟩
      generalize w9.alloc (.cells #[.slice a1 rp.length c1, .slice a2 pp.length c2] 125) = Z at *
      clear hbA
      have hO3 := hO.below hW
      have hb9 := hb3.trans (hW.mono hb3.size)
      have hrow0 := hO3.1
      refine one_at 9 _ 1 (by kernel_rfl) rfl (by kernel_rfl) ?_
      refine wpList_append_own_at _ rfl _ _ 25 rfl 0 125 i0 (.agg #[.slice none 0 0, .slice none 0 0]) 2 48 Tryz.underlying25 hi hz0 hz1 hz2 rfl (by decide) _ qs.length (roundK.row qs) rfl hrow0 ⟨w9.heap.size, 0, none⟩ 1 1 [.slice a1 rp.length c1, .slice a2 pp.length c2] rfl rfl hsrc ?c2 ?c3 ?c4 ?c5 ?_
      case c2 => intro u hu; simp at hu; rcases hu with rfl | rfl <;> rfl
      case c3 => have := HQL.out; unfold maxLen; omega
      case c4 => have := HQL.out; omega
      case c5 => omega
      intro v' w5 hown hgrow hnil hat
      clear hnil hrow0 hsrc
      have hW3 : wr.heap.size ≤ W3.heap.size := by have := hB3.lt; omega
      obtain ⟨hO5, hn5, hlo5, hou⟩ := hO3.snoc (p := ⟨.slice a1 rp.length c1, rp, .slice a2 pp.length c2, pp⟩) HN.out.1 HN.out.2 ⟨o1, o2⟩ (List.nodup_append.2 ⟨intK_nodup _ _, intK_nodup _ _, hdis⟩) (fun x hx hx' => by
        have := HF.out x hx'
        rcases List.mem_append.1 hx with hx | hx
        · have := L1 x hx; omega
        · have := L2 x hx; omega) (fun x hx => by
        have := hb3.size
        rcases List.mem_append.1 hx with hx | hx
        · have := L1 x hx; omega
        · have := L2 x hx; omega) hb9.size hown hgrow hat
      have hb5 : Below w.heap.size w w5 := Out.keep hb9 hou hb9.size (fun x hx => HN.out.2 x (by simp only [Kind.fp, List.mem_append]; exact Or.inl hx))
      have hW5 : Out (blk (.slice sa qs.length sc)) W3 w5 := (Out.of_below hW).trans hou
      have HE5 : Hid ((qs ++ [(⟨.slice a1 rp.length c1, rp, .slice a2 pp.length c2, pp⟩ : RoundQ)]).map RoundQ.e = (ps.take (k + 1)).map RoundQ.e) := HPE.out _ rfl
      have HN5 : Hid ((roundK.fp v' (qs ++ [(⟨.slice a1 rp.length c1, rp, .slice a2 pp.length c2, pp⟩ : RoundQ)])).Nodup ∧ ∀ k ∈ roundK.fp v' (qs ++ [(⟨.slice a1 rp.length c1, rp, .slice a2 pp.length c2, pp⟩ : RoundQ)]), w.heap.size ≤ k) := ⟨hn5, hlo5⟩
      clear hn5 hlo5 hou HPE HN HF o1 o2 L1 L2 hdis hown hgrow hat hO3 hO hb9 hb3
      go_wp2
      refine ThenGo.to ⟨⟨⟨_, hW5⟩, rfl⟩, ?_⟩
      simp only [Act.put, List.getElem_toArray, List.getElem_cons_succ, List.getElem_cons_zero, List.setIfInBounds_toArray, List.set_cons_zero, List.set_cons_succ]
      refine seg_range [(10, 1)] 0 (by kernel_rfl) (by kernel_rfl) (by kernel_rfl) (by kernel_rfl) (by kernel_rfl) ⟨⟨_, hW5⟩, rfl⟩ ?_
      simp only [pickR, List.toList_toArray, List.flatMap_cons, List.flatMap_nil, List.drop_succ_cons, List.drop_zero, List.take_succ_cons, List.take_zero, List.cons_append, List.nil_append, List.append_nil]
      repeat go_big_quiet_step (fail)
      refine wpQuiet_nil ?_
      refine text_end (by kernel_rfl) ?_
      clear p0 p1 hnn hW hW5 hnw hB3 hF
      go_wp2
      go_roundw
      case rel => exact ⟨k + 1, _, by omega, by go_num, HE5, hO5, HN5, hb5⟩
      case measure => simp [intOf]; omega
    · have hkl : k = ps.length := by omega
      subst hkl
      have hE := HE.out
      rw [List.take_length] at hE
      clear HE
      go_wp2
      go_ret
      exact ⟨_, qs, rfl, hE, hO, HN.out.1, HN.out.2, hb⟩

set_option maxHeartbeats 4000000 in
theorem cloneInstance_any (p : InstQ) (w : World) (h : instK.rd w p) (hl : p.n ≤ 1048576) (hne : ∀ t ∈ p.batch, 0 < t.acts.length) (hro : ∀ r ∈ p.rounds, 0 < r.rep.length ∧ 0 < r.pro.length) (hd0 : 0 < p.dec.length) :
    Calls Tryz.prog 92 #[.agg #[.bool p.has, p.vb, p.vr, p.vd]] w fun e w' => ∃ q : InstQ, e = .returned (.agg #[.bool q.has, q.vb, q.vr, q.vd]) ∧ q.e = p.e ∧ instK.own w' q ∧ (instK.foot q).Nodup ∧ (∀ k ∈ instK.foot q, w.heap.size ≤ k) ∧ Below w.heap.size w w' := by
  obtain ⟨has, vb, batch, vr, rounds, vd, dec⟩ := p
  obtain ⟨h1, h2, h3⟩ : txnK.At w vb batch ∧ roundK.At w vr rounds ∧ intK.At w vd dec := h
  dsimp only [InstQ.n] at hl hne hro hd0
  have hc1 := fun w hT => cloneTxns_any vb batch w hT hne (by omega)
  have hc2 := fun w hT => cloneRounds_any vr rounds w hT hro (by omega)
  have hc3 := fun w hT => cloneInts_any vd dec w hT hd0 (by omega)
  obtain ⟨ba, bk, rfl⟩ := h1.shape
  obtain ⟨va, vk, rfl⟩ := h2.shape
  obtain ⟨da, dk, rfl⟩ := h3.shape
  have hb0 : Below w.heap.size w ((w.alloc (.cells #[.bool has, .slice ba batch.length bk, .slice va rounds.length vk, .slice da dec.length dk] 28)).alloc (.cells #[.bool false, .slice none 0 0, .slice none 0 0, .slice none 0 0] 28)) := by go_grown
  have B := (Blk.new w 28 #[.bool has, .slice ba batch.length bk, .slice va rounds.length vk, .slice da dec.length dk]).below (w' := ((w.alloc (.cells #[.bool has, .slice ba batch.length bk, .slice va rounds.length vk, .slice da dec.length dk] 28)).alloc (.cells #[.bool false, .slice none 0 0, .slice none 0 0, .slice none 0 0] 28))) (by go_grown)
  have R := Blk.new (w.alloc (.cells #[.bool has, .slice ba batch.length bk, .slice va rounds.length vk, .slice da dec.length dk] 28)) 28 #[.bool false, .slice none 0 0, .slice none 0 0, .slice none 0 0]
  rw [World.size_alloc] at R
  go_enter Tryz.func92, Tryz.ntmps92
  go_wp2_with fail
  have hws : w.heap.size + 2 ≤ ((w.alloc (.cells #[.bool has, .slice ba batch.length bk, .slice va rounds.length vk, .slice da dec.length dk] 28)).alloc (.cells #[.bool false, .slice none 0 0, .slice none 0 0, .slice none 0 0] 28)).heap.size := by simp
  generalize ((w.alloc (.cells #[.bool has, .slice ba batch.length bk, .slice va rounds.length vk, .slice da dec.length dk] 28)).alloc (.cells #[.bool false, .slice none 0 0, .slice none 0 0, .slice none 0 0] 28)) = W at *
  have hF : w.heap.size ∉ [w.heap.size + 1] := by simp
  have p0 := lato_cell (F := [w.heap.size + 1]) (B.cell 0 _ rfl) hF
  have p1 := lato_cell (F := [w.heap.size + 1]) (B.cell 1 _ rfl) hF
  have p2 := lato_cell (F := [w.heap.size + 1]) (B.cell 2 _ rfl) hF
  have p3 := lato_cell (F := [w.heap.size + 1]) (B.cell 3 _ rfl) hF
  have hnn : Nonempty (LatO [w.heap.size + 1] W) := ⟨⟨W, Out.refl _ _⟩⟩
  have hW : Below W.heap.size W W.drew := (Below.refl _ _).drew
  have hnw : ∀ w', Below W.heap.size W w' → ∃ u : LatO [w.heap.size + 1] W, w' = u.val := fun w' hw' => ⟨⟨w', Out.of_below hw'⟩, rfl⟩
  refine text_begin (S := fun w' => ∃ u : LatO [w.heap.size + 1] W, w' = u.val) (by kernel_rfl) ?_
  refine seg_range [(0, 4), (5, 2), (8, 2)] 5 (by kernel_rfl) (by kernel_rfl) (by kernel_rfl) (by kernel_rfl) (by kernel_rfl) (hnw _ hW) ?_
  simp only [pickR, List.toList_toArray, List.flatMap_cons, List.flatMap_nil, List.drop_succ_cons, List.drop_zero, List.take_succ_cons, List.take_zero, List.cons_append, List.nil_append, List.append_nil]
  repeat go_big_quiet_step (fail)
  refine wpQuiet_nil ?_
  refine call_at 4 (some 7) 98 #[.slice ba batch.length bk] 4 (by kernel_rfl) (by kernel_rfl) (by kernel_rfl) (by kernel_rfl) (by kernel_rfl) ?_
  refine (hc1 _ (h1.below (hb0.trans (hW.mono hb0.size)))).mono ?_
  rintro e w1 ⟨v1, q1, rfl, e1, o1, n1, g1, hb⟩
  have L1 : ∀ x ∈ txnK.fp v1 q1, W.heap.size ≤ x := fun x hx => by have := g1 x hx; have := hW.size; omega
  have M1 := o1.lt
  replace hW := hW.trans (hb.mono hW.size)
  clear hb g1
  refine ⟨_, rfl, hnw _ hW, ?_⟩
  simp only [Act.put, List.setIfInBounds_toArray, List.set_cons_zero, List.set_cons_succ]
  refine call_at 7 (some 10) 152 #[.slice va rounds.length vk] 3 (by kernel_rfl) (by kernel_rfl) (by kernel_rfl) (by kernel_rfl) (by kernel_rfl) ?_
  refine (hc2 _ (h2.below (hb0.trans (hW.mono hb0.size)))).mono ?_
  rintro e w2 ⟨v2, q2, rfl, e2, o2, n2, g2, hb⟩
  have L2 : ∀ x ∈ roundK.fp v2 q2, W.heap.size ≤ x := fun x hx => by have := g2 x hx; have := hW.size; omega
  have D12 : ∀ x ∈ txnK.fp v1 q1, ∀ y ∈ roundK.fp v2 q2, x ≠ y := fun x hx y hy e => by have := M1 x hx; have := g2 y hy; omega
  have M2 := o2.lt
  have hs12 := hb.size
  replace o1 := o1.below hb
  replace hW := hW.trans (hb.mono hW.size)
  clear hb g2
  refine ⟨_, rfl, hnw _ hW, ?_⟩
  simp only [Act.put, List.setIfInBounds_toArray, List.set_cons_zero, List.set_cons_succ]
  refine call_at 10 (some 13) 137 #[.slice da dec.length dk] 2 (by kernel_rfl) (by kernel_rfl) (by kernel_rfl) (by kernel_rfl) (by kernel_rfl) ?_
  refine (hc3 _ (h3.below (hb0.trans (hW.mono hb0.size)))).mono ?_
  rintro e w3 ⟨a3, c3, rfl, o3, g3, hb⟩
  have L3 : ∀ x ∈ intK.fp (.slice a3 dec.length c3) dec, W.heap.size ≤ x := fun x hx => by have := g3 x hx; have := hW.size; omega
  have D13 : ∀ x ∈ txnK.fp v1 q1, ∀ y ∈ intK.fp (.slice a3 dec.length c3) dec, x ≠ y := fun x hx y hy e => by have := M1 x hx; have := g3 y hy; omega
  have D23 : ∀ x ∈ roundK.fp v2 q2, ∀ y ∈ intK.fp (.slice a3 dec.length c3) dec, x ≠ y := fun x hx y hy e => by have := M2 x hx; have := g3 y hy; omega
  replace o1 := o1.below hb
  replace o2 := o2.below hb
  replace hW := hW.trans (hb.mono hW.size)
  clear hb g3 M1 M2 hs12
  obtain ⟨s1, t1, rfl⟩ := o1.shape
  obtain ⟨s2, t2, rfl⟩ := o2.shape
  refine ⟨_, rfl, hnw _ hW, ?_⟩
  simp only [Act.put, List.setIfInBounds_toArray, List.set_cons_zero, List.set_cons_succ]
  refine quiet_at 11 (some 14) (.agg #[.bool has, .slice s1 q1.length t1, .slice s2 q2.length t2, .slice a3 dec.length c3]) 1 (by kernel_rfl) (by kernel_rfl) (by kernel_rfl) (by kernel_rfl) (by kernel_rfl) (fun u _ => by kernel_rfl) (hnw _ hW) ?_
  simp only [Act.put, List.setIfInBounds_toArray, List.set_cons_zero, List.set_cons_succ]
  have R3 := R.below hW
  refine one_at 12 _ 0 (by kernel_rfl) rfl (by kernel_rfl) ?_
  have hRr := R3.row #[.bool has, .slice s1 q1.length t1, .slice s2 q2.length t2, .slice a3 dec.length c3]
  have hou := out_row w3 (w.heap.size + 1) #[.bool has, .slice s1 q1.length t1, .slice s2 q2.length t2, .slice a3 dec.length c3]
  have hWo : Out [w.heap.size + 1] W (w3.setRow (w.heap.size + 1) #[.bool has, .slice s1 q1.length t1, .slice s2 q2.length t2, .slice a3 dec.length c3]) := (Out.of_below hW).trans hou
  refine st_row (by kernel_rfl) 28 _ _ rfl _ #[.bool has, .slice s1 q1.length t1, .slice s2 q2.length t2, .slice a3 dec.length c3] rfl rfl 28 _ R3 sz_inst rfl (by simp [Value.oneCell']) ?_
  go_wp2
  refine ThenGo.to ⟨⟨⟨_, hWo⟩, rfl⟩, ?_⟩
  refine text_end (by kernel_rfl) ?_
  have hnm : ∀ x, W.heap.size ≤ x → x ∉ [w.heap.size + 1] := fun x hx => by simp only [List.mem_singleton]; omega
  have o1' := o1.out hou (fun x hx => hnm x (L1 x hx))
  have o2' := o2.out hou (fun x hx => hnm x (L2 x hx))
  have o3' := o3.out hou (fun x hx => hnm x (L3 x hx))
  have hBe : Below w.heap.size w (w3.setRow (w.heap.size + 1) #[.bool has, .slice s1 q1.length t1, .slice s2 q2.length t2, .slice a3 dec.length c3]) := below_row (hb0.trans (hW.mono hb0.size)) (by omega) _
  clear p0 p1 p2 p3 hnn hnw hc1 hc2 hc3 hou hWo o1 o2 o3 R3
  generalize w3.setRow (w.heap.size + 1) #[.bool has, .slice s1 q1.length t1, .slice s2 q2.length t2, .slice a3 dec.length c3] = w4 at *
  have p0 := hRr.cell 0 _ rfl
  have p1 := hRr.cell 1 _ rfl
  have p2 := hRr.cell 2 _ rfl
  have p3 := hRr.cell 3 _ rfl
  go_wp2
  refine bodyPost_ret (v := .agg #[.bool has, .slice s1 q1.length t1, .slice s2 q2.length t2, .slice a3 dec.length c3]) (by simp [results, Tryz.results92, go_sem, p0, p1, p2, p3]) rfl ?_
  refine ⟨⟨has, .slice s1 q1.length t1, q1, .slice s2 q2.length t2, q2, .slice a3 dec.length c3, dec⟩, rfl, ?_, ⟨o1', o2', o3'⟩, ?_, ?_, hBe⟩
  · simp only [InstQ.e, e1, e2]
  · exact List.nodup_append.2 ⟨n1, List.nodup_append.2 ⟨n2, intK_nodup _ _, D23⟩, fun x hx y hy => by
      rcases List.mem_append.1 hy with hy | hy
      · exact D12 x hx y hy
      · exact D13 x hx y hy⟩
  · intro x hx
    rcases List.mem_append.1 hx with hx | hx
    · have := L1 x hx; omega
    · rcases List.mem_append.1 hx with hx | hx
      · have := L2 x hx; omega
      · have := L3 x hx; omega

set_option maxHeartbeats 4000000 in
theorem cloneOrder_any (v : Value) (ps : List InstQ) (w : World) (h : instK.At w v ps) (hlow : (∀ p ∈ ps, (∀ t ∈ p.batch, 0 < t.acts.length) ∧ (∀ r ∈ p.rounds, 0 < r.rep.length ∧ 0 < r.pro.length) ∧ 0 < p.dec.length)) (hl : (ps.length + nmL InstQ.n ps) ≤ 1048576) :
    Calls Tryz.prog 91 #[v] w fun e w' => ∃ v' qs, e = .returned v' ∧ qs.map InstQ.e = ps.map InstQ.e ∧ instK.Own w' v' qs ∧ (instK.fp v' qs).Nodup ∧ (∀ k ∈ instK.fp v' qs, w.heap.size ≤ k) ∧ Below w.heap.size w w' := by
  obtain ⟨a, cap, rfl⟩ := h.shape
  obtain ⟨i0, hi, hz0, hz1, hz2⟩ := info_parts infoInstance
  obtain ⟨hn1, hn2⟩ := Kind.own_nil (K := instK) w
  have HN0 : Hid ((instK.fp (.slice none 0 0) ([] : List InstQ)).Nodup ∧ ∀ k ∈ instK.fp (.slice none 0 0) ([] : List InstQ), w.heap.size ≤ k) := by
    rw [hn2]
    exact ⟨by simp, by simp⟩
  have hb0 : Below w.heap.size w w := Below.refl _ _
  clear hn2
  go_enter Tryz.func91, Tryz.ntmps91
  go_wp2
  go_loopw [3, 8] (fun v j wr => ∃ (k : Nat) (qs : List InstQ), k ≤ ps.length ∧ j = .int .i64 k ∧ Hid (qs.map InstQ.e = (ps.take k).map InstQ.e) ∧ instK.Own wr v qs ∧ Hid ((instK.fp v qs).Nodup ∧ ∀ k ∈ instK.fp v qs, w.heap.size ≤ k) ∧ Below w.heap.size w wr) (fun _ j _ => ps.length - (intOf j).toNat)
  case atStart => exact ⟨0, [], Nat.zero_le _, rfl, (rfl : _ = _), hn1, HN0, hb0⟩
  case round =>
    clear HN0 hn1 hb0
    obtain ⟨k, qs, hk, rfl, HE, hO, HN, hb⟩ := hrel
    obtain ⟨sa, sc, rfl⟩ := hO.shape
    have HQL : Hid (qs.length = k) := by
      have := congrArg List.length HE.out
      rw [List.length_map, List.length_map, List.length_take] at this
      show qs.length = k
      omega
    by_cases hlt : k < ps.length
    · obtain ⟨b, off, rfl, hbs, hc, hrd⟩ := (h.below hb).cell (by decide) k hlt
      have hc' : ∀ j x, (instK.cells ps[k])[j]? = some x → wr.cell? ⟨b, off + k * 4 + j, none⟩ = some x := hc
      have c0 := hc' 0 (.bool ps[k].has) rfl
      have c1 := hc' 1 ps[k].vb rfl
      have c2 := hc' 2 ps[k].vr rfl
      have c3 := hc' 3 ps[k].vd rfl
      rw [Nat.add_zero] at c0
      have hzl := nm_le InstQ.n ps k hlt
      have hlow1 := hlow _ (List.getElem_mem hlt)
      have HPE : Hid (∀ p' : InstQ, p'.e = InstQ.e ps[k] → (qs ++ [p']).map InstQ.e = (ps.take (k + 1)).map InstQ.e) := fun p' hp' => by
        rw [List.take_succ_eq_append_getElem hlt, List.map_append, List.map_append, HE.out, List.map_singleton, List.map_singleton, hp']
      clear hc hc'
      have hcl0 := cloneInstance_any ps[k]
      have hcl := fun w h => hcl0 w h (by omega) hlow1.1 hlow1.2.1 hlow1.2.2
      clear hcl0 HE
      generalize ps[k] = p at *
      obtain ⟨has, vb, batch, vr, rounds, vd, dec⟩ := p
      obtain ⟨ba, bk, rfl⟩ : ∃ a c, vb = .slice a batch.length c := hrd.1.shape
      obtain ⟨va, vk, rfl⟩ : ∃ a c, vr = .slice a rounds.length c := hrd.2.1.shape
      obtain ⟨da, dk, rfl⟩ : ∃ a c, vd = .slice a dec.length c := hrd.2.2.shape
      dsimp only at c0 c1 c2 c3 hcl
      have hbY : Below wr.heap.size wr (wr.alloc (.cells #[.bool has, .slice ba batch.length bk, .slice va rounds.length vk, .slice da dec.length dk] 28)) := by go_grown
      have rdY := instK.rd_below hrd hbY
      replace hO := hO.below hbY
      replace hb := hb.trans (hbY.mono hb.size)
      go_wp2_with fail
      clear c0 c1 c2 c3 hbY
      generalize wr.alloc (.cells #[.bool has, .slice ba batch.length bk, .slice va rounds.length vk, .slice da dec.length dk] 28) = Y at *
      have HLT : Hid (∀ x ∈ instK.fp (.slice sa qs.length sc) qs, x < Y.heap.size) := hO.lt
      have HYS : Hid (w.heap.size ≤ Y.heap.size) := hb.size
      refine (hcl Y rdY).mono ?_
      rintro e w2 ⟨q, rfl, eq, oq, nq, gq, hb2⟩
      replace hO := hO.below hb2
      replace hb := hb.trans (hb2.mono hb.size)
      have h2s := hb2.size
      clear hcl hb2
      obtain ⟨qh, qvb, qb, qvr, qr, qvd, qd⟩ := q
      obtain ⟨x1, y1, rfl⟩ : ∃ a c, qvb = .slice a qb.length c := oq.1.shape
      obtain ⟨x2, y2, rfl⟩ : ∃ a c, qvr = .slice a qr.length c := oq.2.1.shape
      obtain ⟨x3, y3, rfl⟩ : ∃ a c, qvd = .slice a qd.length c := oq.2.2.shape
      have hbA : Below w2.heap.size w2 (w2.alloc (.cells #[.bool qh, .slice x1 qb.length y1, .slice x2 qr.length y2, .slice x3 qd.length y3] 28)) := by go_grown
      have hOA := hO.below hbA
      have hPA := instK.own_out (F := []) oq (Out.of_below hbA) (fun _ _ => by simp)
      have hbB := hb.trans (hbA.mono hb.size)
      have hYA : Y.heap.size ≤ (w2.alloc (.cells #[.bool qh, .slice x1 qb.length y1, .slice x2 qr.length y2, .slice x3 qd.length y3] 28)).heap.size := by have := hbA.size; omega
      clear hO oq
      have hrow0 := hOA.1
      go_wp2_with (at_builtin; refine wpList_append_own_at _ rfl _ _ 49 rfl 0 28 i0 (.agg #[.bool false, .slice none 0 0, .slice none 0 0, .slice none 0 0]) 4 80 Tryz.underlying49 hi hz0 hz1 hz2 rfl (by decide) _ qs.length (instK.row qs) rfl hrow0 ⟨w2.heap.size, 0, none⟩ 1 1 [.bool qh, .slice x1 qb.length y1, .slice x2 qr.length y2, .slice x3 qd.length y3] rfl rfl ?c1 ?c2 ?c3 ?c4 ?c5 ?_)
      all_goals try (case c1 => intro j u hj; match j, hj with | 0, hj => simp at hj; subst hj; simp [Addr.add] | 1, hj => simp at hj; subst hj; simp [Addr.add] | 2, hj => simp at hj; subst hj; simp [Addr.add] | 3, hj => simp at hj; subst hj; simp [Addr.add])
      all_goals try (case c2 => intro u hu; simp at hu; rcases hu with rfl | rfl | rfl | rfl <;> rfl)
      all_goals try (case c3 => have := HQL.out; unfold maxLen; omega)
      all_goals try (case c4 => have := HQL.out; omega)
      all_goals try (case c5 => first | omega | simp)
      intro v' w5 hown hgrow hnil hat
      clear hnil hrow0
      rw [show w2.heap.size + 1 = (w2.alloc (.cells #[.bool qh, .slice x1 qb.length y1, .slice x2 qr.length y2, .slice x3 qd.length y3] 28)).heap.size from (World.size_alloc _ _).symm] at hat
      generalize hwA : w2.alloc (.cells #[.bool qh, .slice x1 qb.length y1, .slice x2 qr.length y2, .slice x3 qd.length y3] 28) = WA at *
      clear hwA
      obtain ⟨hO5, hn5, hlo5, hou⟩ := hOA.snoc (p := (⟨qh, .slice x1 qb.length y1, qb, .slice x2 qr.length y2, qr, .slice x3 qd.length y3, qd⟩ : InstQ)) HN.out.1 HN.out.2 hPA nq (fun x hx hx' => by have := HLT.out x hx'; have := gq x hx; omega) (fun x hx => by have := gq x hx; have := HYS.out; omega) hbB.size hown hgrow hat
      have hb5 : Below w.heap.size w w5 := Out.keep hbB hou hbB.size (fun x hx => HN.out.2 x (by simp only [Kind.fp, List.mem_append]; exact Or.inl hx))
      have HE5 : Hid ((qs ++ [(⟨qh, .slice x1 qb.length y1, qb, .slice x2 qr.length y2, qr, .slice x3 qd.length y3, qd⟩ : InstQ)]).map InstQ.e = (ps.take (k + 1)).map InstQ.e) := HPE.out _ eq
      have HN5 : Hid ((instK.fp v' (qs ++ [(⟨qh, .slice x1 qb.length y1, qb, .slice x2 qr.length y2, qr, .slice x3 qd.length y3, qd⟩ : InstQ)])).Nodup ∧ ∀ k ∈ instK.fp v' (qs ++ [(⟨qh, .slice x1 qb.length y1, qb, .slice x2 qr.length y2, qr, .slice x3 qd.length y3, qd⟩ : InstQ)]), w.heap.size ≤ k) := ⟨hn5, hlo5⟩
      clear HPE HN HLT HYS hPA hOA hbB hown hgrow hat hou hn5 hlo5 hrd hb hbA hzl hlow1 hYA gq nq eq
      go_wp2
      go_roundw
      case rel => exact ⟨k + 1, _, by omega, by go_num, HE5, hO5, HN5, hb5⟩
      case measure => simp [intOf]; omega
    · have hkl : k = ps.length := by omega
      subst hkl
      have hE := HE.out
      rw [List.take_length] at hE
      clear HE
      go_wp2
      go_ret
      exact ⟨_, qs, rfl, hE, hO, HN.out.1, HN.out.2, hb⟩

end Go.Proofs.YtmgkjcobdmdjmaaGreatDoor
namespace Go.Proofs.YtmgkjcobdmdjmaaGreatDoor
open Go.RowKit
set_option linter.unusedVariables false
set_option maxRecDepth 100000
set_option linter.unusedSimpArgs false
def instNo : InstE := ⟨false, [], [], []⟩

/-- The fault of the instances, one by one. -/
def ordGo : List InstE → Int
  | [] => 0
  | x :: r => if insF x = 0 then (if 0 < r.length ∧ outV x.dec = 3 then 8 else ordGo r) else insF x

/-- The fault of an order. -/
def ordF (ds : List InstE) : Int := if ds.length < 1 ∨ 4 < ds.length then 2 else ordGo ds

def lastE (ds : List InstE) : InstE := ds.getD (ds.length - 1) instNo

/-- How many have an outcome. -/
def decN (ds : List InstE) : Nat := if outV (lastE ds).dec = 3 then ds.length - 1 else ds.length

theorem drop_at (ds : List InstE) (k : Nat) (hk : k < ds.length) : ds.drop k = ds.getD k instNo :: ds.drop (k + 1) := by
  rw [List.drop_eq_getElem_cons hk]
  simp [List.getD, hk]

theorem ordGo_bad (ds : List InstE) (k : Nat) (hk : k < ds.length) (h : insF (ds.getD k instNo) ≠ 0) : ordGo (ds.drop k) = insF (ds.getD k instNo) := by
  rw [drop_at ds k hk, ordGo, if_neg h]

theorem ordGo_open (ds : List InstE) (k : Nat) (hk : k + 1 < ds.length) (h : insF (ds.getD k instNo) = 0) (h3 : outV (ds.getD k instNo).dec = 3) : ordGo (ds.drop k) = 8 := by
  rw [drop_at ds k (by omega), ordGo, if_pos h, if_pos ⟨by simp; omega, h3⟩]

theorem ordGo_next (ds : List InstE) (k : Nat) (hk : k < ds.length) (h : insF (ds.getD k instNo) = 0) (h3 : ¬ (k + 1 < ds.length ∧ outV (ds.getD k instNo).dec = 3)) : ordGo (ds.drop k) = ordGo (ds.drop (k + 1)) := by
  rw [drop_at ds k hk, ordGo, if_pos h, if_neg]
  rintro ⟨h1, h2⟩
  exact h3 ⟨by simp at h1; omega, h2⟩

theorem ordGo_end (ds : List InstE) (k : Nat) (hk : ds.length ≤ k) : ordGo (ds.drop k) = 0 := by
  rw [List.drop_of_length_le hk]
  rfl

theorem ordGo_iff : ∀ (ds : List InstE), ordGo ds = 0 ↔ ∀ k, k < ds.length → insF (ds.getD k instNo) = 0 ∧ (k + 1 < ds.length → outV (ds.getD k instNo).dec ≠ 3)
  | [] => by simp [ordGo]
  | x :: r => by
    rw [ordGo]
    constructor
    · intro h k hk
      by_cases h0 : insF x = 0
      · rw [if_pos h0] at h
        by_cases h1 : 0 < r.length ∧ outV x.dec = 3
        · rw [if_pos h1] at h
          exact absurd h (by decide)
        · rw [if_neg h1] at h
          cases k with
          | zero => exact ⟨h0, fun hl h3 => h1 ⟨by simpa using hl, h3⟩⟩
          | succ k =>
            have := (ordGo_iff r).1 h k (by simpa using hk)
            simp only [List.getD_cons_succ, List.length_cons]
            exact ⟨this.1, fun hl => this.2 (by omega)⟩
      · rw [if_neg h0] at h
        exact absurd h h0
    · intro h
      have h0 := h 0 (by simp)
      have e0 : insF x = 0 := h0.1
      rw [if_pos e0, if_neg (fun e => h0.2 (by simpa using e.1) e.2)]
      refine (ordGo_iff r).2 (fun k hk => ?_)
      have := h (k + 1) (by simpa using hk)
      simp only [List.getD_cons_succ, List.length_cons] at this
      exact ⟨this.1, fun hl => this.2 (by omega)⟩

theorem ord_iff (ds : List InstE) : ordF ds = 0 ↔ (1 ≤ ds.length ∧ ds.length ≤ 4) ∧ ∀ k, k < ds.length → insF (ds.getD k instNo) = 0 ∧ (k + 1 < ds.length → outV (ds.getD k instNo).dec ≠ 3) := by
  unfold ordF
  by_cases h : ds.length < 1 ∨ 4 < ds.length
  · rw [if_pos h]
    constructor
    · intro h; exact absurd h (by decide)
    · rintro ⟨h1, _⟩; omega
  · rw [if_neg h, ordGo_iff]
    constructor
    · intro h2; exact ⟨by omega, h2⟩
    · rintro ⟨_, h2⟩; exact h2

theorem ord_mem {ds : List InstE} (h : ordF ds = 0) : ∀ x ∈ ds, insF x = 0 := by
  intro x hx
  obtain ⟨k, hk, rfl⟩ := List.getElem_of_mem hx
  have := (((ord_iff ds).1 h).2 k hk).1
  simpa [List.getD, hk] using this

theorem decN_le (ds : List InstE) : decN ds ≤ ds.length := by
  unfold decN
  split <;> omega

end Go.Proofs.YtmgkjcobdmdjmaaGreatDoor
namespace Go.Proofs.YtmgkjcobdmdjmaaGreatDoor
open Go.RowKit
open Go.BigFrame
set_option linter.unusedVariables false
set_option maxRecDepth 100000
set_option linter.unusedSimpArgs false
theorem fieldI0 (c v : Int) (w : World) : (Instr.field 56 (.agg #[.int .i64 c, .int .i64 v]) 0).run Tryz.prog w = .ok (.int .i64 c) w := by kernel_rfl

theorem oc_eq (x : InstE) : (ocC x == 0) = ((insF x == 0) && (outV x.dec != 3)) := by
  unfold ocC
  by_cases h0 : insF x = 0
  · rw [if_pos h0, h0]
    by_cases h3 : outV x.dec = 3
    · rw [if_pos h3, h3]; rfl
    · rw [if_neg h3]
      have : (outV x.dec != 3) = true := by simpa using h3
      rw [this]; rfl
  · rw [if_neg h0]
    have : (insF x == 0) = false := by simpa using h0
    rw [this]; rfl

theorem inst_at (ps : List InstQ) (k : Nat) (hk : k < ps.length) : (ps.map InstQ.e).getD k instNo = InstQ.e ps[k] := by simp [List.getD, hk]

theorem nmI_le (ps : List InstQ) (k : Nat) (hk : k < ps.length) : InstQ.n ps[k] ≤ nmL InstQ.n ps := nm_le InstQ.n ps k hk

theorem instP_at {w : World} {a : Option Addr} {n cap : Nat} {ps : List InstQ} (h : instK.At w (.slice a n cap) ps) (k : Nat) (hk : k < ps.length) : ∃ b off, a = some ⟨b, off, none⟩ ∧ b < w.heap.size ∧ InstP w b (off + k * 4) ps[k] := by
  obtain ⟨b, off, e, hb, hc, hrd⟩ := h.cell (by decide) k hk
  have hc' : ∀ j x, (instK.cells ps[k])[j]? = some x → w.cell? ⟨b, off + k * 4 + j, none⟩ = some x := hc
  exact ⟨b, off, e, hb, ⟨hc' 0 (.bool ps[k].has) rfl, hc' 1 ps[k].vb rfl, hc' 2 ps[k].vr rfl, hc' 3 ps[k].vd rfl⟩, hrd⟩

set_option maxHeartbeats 2000000 in
theorem hasOutcome_any (p : InstQ) (w : World) (hG : Rul w) (h : instK.rd w p) (hl : p.n ≤ 1048576) :
    Calls Tryz.prog 97 #[.agg #[.bool p.has, p.vb, p.vr, p.vd]] w fun e w' => e = .returned (.bool (ocC p.e == 0)) ∧ Below w.heap.size w w' := by
  have hbo := fun w hG h => implOutcome_any p w hG h hl
  have hrb := fun (w' : World) hb => instK.rd_below (w' := w') h hb
  generalize ocC p.e = D at *
  generalize ocV p.e = E at *
  obtain ⟨has, vb, batch, vr, rounds, vd, dec⟩ := p
  obtain ⟨ba, bk, rfl⟩ : ∃ a c, vb = .slice a batch.length c := h.1.shape
  obtain ⟨va, vk, rfl⟩ : ∃ a c, vr = .slice a rounds.length c := h.2.1.shape
  obtain ⟨da, dk, rfl⟩ : ∃ a c, vd = .slice a dec.length c := h.2.2.shape
  dsimp only at hbo hrb
  have hf0 := fieldI0 D E
  have hB : Below w.heap.size w (w.alloc (.cells #[.bool has, .slice ba batch.length bk, .slice va rounds.length vk, .slice da dec.length dk] 28)) := by go_grown
  go_enter Tryz.func97, Tryz.ntmps97
  go_wp2_with fail
  generalize w.alloc (.cells #[.bool has, .slice ba batch.length bk, .slice va rounds.length vk, .slice da dec.length dk] 28) = W at *
  refine (hbo W (hG.below hB) (hrb W hB)).mono ?_
  rintro e w1 ⟨rfl, hb1⟩
  replace hB := hB.trans (hb1.mono hB.size)
  go_wp2
  go_ret
  exact ⟨rfl, hB⟩

set_option maxHeartbeats 4000000 in
theorem implOrderFault_any (v : Value) (ps : List InstQ) (w : World) (hG : Rul w) (h : instK.At w v ps) (hl : (ps.length + nmL InstQ.n ps) ≤ 1048576) :
    Calls Tryz.prog 31 #[v] w fun e w' => e = .returned (.int .i64 (ordF (ps.map InstQ.e))) ∧ Below w.heap.size w w' := by
  obtain ⟨a, cap, rfl⟩ := h.shape
  generalize hE : ordF (ps.map InstQ.e) = E
  have HE : Hid (ordF (ps.map InstQ.e) = E) := hE
  clear hE
  by_cases hlen : ps.length < 1 ∨ 4 < ps.length
  · have E1 : Hid (E = 2) := by
      have := HE.out
      unfold ordF at this
      rw [if_pos (by simpa using hlen)] at this
      exact this.symm
    clear HE
    rcases hlen with hlen | hlen
    · go_enter Tryz.func31, Tryz.ntmps31
      go_wp2
      go_ret
      exact ⟨by rw [E1.out]; rfl, Below.refl _ _⟩
    · have h1 : ¬ ps.length < 1 := by omega
      go_enter Tryz.func31, Tryz.ntmps31
      go_wp2
      go_ret
      exact ⟨by rw [E1.out]; rfl, Below.refl _ _⟩
  · have HG : Hid (E = ordGo (ps.map InstQ.e)) := by
      have := HE.out
      unfold ordF at this
      rw [if_neg (by simpa using hlen)] at this
      exact this.symm
    have h1 : ¬ ps.length < 1 := by omega
    have h4 : ps.length ≤ 4 := by omega
    clear HE hlen
    go_enter Tryz.func31, Tryz.ntmps31
    go_wp2
    go_loopw [16] (fun i wr => ∃ k : Nat, k ≤ ps.length ∧ i = .int .i64 k ∧ Hid (E = ordGo ((ps.map InstQ.e).drop k)) ∧ Below w.heap.size w wr) (fun i _ => ps.length - (intOf i).toNat)
    case atStart => exact ⟨0, Nat.zero_le _, rfl, HG, Below.refl _ _⟩
    case round =>
      clear HG
      obtain ⟨k, hk, rfl, HG, hb⟩ := hrel
      by_cases hlt : k < ps.length
      · have hat := inst_at ps k hlt
        have HBAD : Hid (insF (InstQ.e ps[k]) ≠ 0 → E = insF (InstQ.e ps[k])) := fun hx => by
          rw [HG.out, ordGo_bad _ k (by simpa using hlt) (by rw [hat]; exact hx), hat]
        have HOPN : Hid (k + 1 < ps.length → insF (InstQ.e ps[k]) = 0 → outV (InstQ.e ps[k]).dec = 3 → E = 8) := fun h1 h2 h3 => by
          rw [HG.out, ordGo_open _ k (by simpa using h1) (by rw [hat]; exact h2) (by rw [hat]; exact h3)]
        have HNXT : Hid (insF (InstQ.e ps[k]) = 0 → ¬ (k + 1 < ps.length ∧ outV (InstQ.e ps[k]).dec = 3) → E = ordGo ((ps.map InstQ.e).drop (k + 1))) := fun h2 h3 => by
          rw [HG.out, ordGo_next _ k (by simpa using hlt) (by rw [hat]; exact h2) (by rw [hat]; simpa using h3)]
        have hn : InstQ.n ps[k] ≤ 1048576 := by have := nmI_le ps k hlt; omega
        have hif0 := implInstanceFault_any ps[k]
        have hho0 := hasOutcome_any ps[k]
        have hif := fun w hG h => hif0 w hG h hn
        have hho := fun w hG h => hho0 w hG h hn
        clear hif0 hho0
        have hoc := oc_eq (InstQ.e ps[k])
        clear hat HG
        obtain ⟨b, off, rfl, hbs, hc, hrd⟩ := (h.below hb).cell (by decide) k hlt
        have hc' : ∀ j x, (instK.cells ps[k])[j]? = some x → wr.cell? ⟨b, off + k * 4 + j, none⟩ = some x := hc
        have c0 := hc' 0 (.bool ps[k].has) rfl
        have c1 := hc' 1 ps[k].vb rfl
        have c2 := hc' 2 ps[k].vr rfl
        have c3 := hc' 3 ps[k].vd rfl
        rw [Nat.add_zero] at c0
        clear hc hc'
        have hrb := fun (w' : World) hb => instK.rd_below (w' := w') hrd hb
        generalize ocC (InstQ.e ps[k]) = OC at *
        generalize outV (InstQ.e ps[k]).dec = OV at *
        generalize insF (InstQ.e ps[k]) = C at *
        generalize ps[k] = p at *
        obtain ⟨has, vb, batch, vr, rounds, vd, dec⟩ := p
        obtain ⟨ba, bk, rfl⟩ : ∃ a c, vb = .slice a batch.length c := hrd.1.shape
        obtain ⟨va, vk, rfl⟩ : ∃ a c, vr = .slice a rounds.length c := hrd.2.1.shape
        obtain ⟨da, dk, rfl⟩ : ∃ a c, vd = .slice a dec.length c := hrd.2.2.shape
        dsimp only at c0 c1 c2 c3 hif hho hrb
        have hB1 : Below wr.heap.size wr (wr.alloc (.cells #[.bool has, .slice ba batch.length bk, .slice va rounds.length vk, .slice da dec.length dk] 28)) := by go_grown
        have Bk := Blk.new wr 28 #[.bool has, .slice ba batch.length bk, .slice va rounds.length vk, .slice da dec.length dk]
        have rd1 := hrb _ hB1
        go_wp2_with fail
        generalize wr.alloc (.cells #[.bool has, .slice ba batch.length bk, .slice va rounds.length vk, .slice da dec.length dk] 28) = W1 at *
        refine (hif W1 (hG.below (hb.trans (hB1.mono hb.size))) rd1).mono ?_
        rintro e w2 ⟨rfl, hb2⟩
        have rd2 := instK.rd_below rd1 hb2
        replace Bk := Bk.below hb2
        replace hb := (hb.trans (hB1.mono hb.size)).trans (hb2.mono (hb.trans (hB1.mono hb.size)).size)
        clear hB1 hb2 rd1 hif c0 c1 c2 c3 hrb
        by_cases hC : C = 0
        · subst hC
          by_cases hk1 : k + 1 < ps.length
          · have hk2 : (k : Int) < (ps.length : Int) - 1 := by omega
            have p0 := Bk.cell 0 _ rfl
            have p1 := Bk.cell 1 _ rfl
            have p2 := Bk.cell 2 _ rfl
            have p3 := Bk.cell 3 _ rfl
            go_wp2_with fail
            refine (hho w2 (hG.below hb) rd2).mono ?_
            rintro e w3 ⟨rfl, hb3⟩
            replace hb := hb.trans (hb3.mono hb.size)
            clear hb3 hho p0 p1 p2 p3 Bk rd2
            by_cases hO : OV = 3
            · have e1 : (OC == 0) = false := by rw [hoc, hO]; rfl
              have E1 : Hid (E = 8) := HOPN.out hk1 (by simp) hO
              clear hoc HOPN HNXT HBAD
              go_wp2
              go_ret
              exact ⟨by rw [E1.out]; rfl, hb⟩
            · have e1 : (OC == 0) = true := by
                rw [hoc]
                have : (OV != 3) = true := by simpa using hO
                rw [this]; rfl
              have E1 : Hid (E = ordGo ((ps.map InstQ.e).drop (k + 1))) := HNXT.out (by simp) (fun h => hO h.2)
              clear hoc HOPN HNXT HBAD
              go_wp2
              go_roundw
              case rel => exact ⟨k + 1, by omega, by go_num, E1.out, hb⟩
              case measure => simp [intOf]; omega
          · have hk2 : ¬ (k : Int) < (ps.length : Int) - 1 := by omega
            have E1 : Hid (E = ordGo ((ps.map InstQ.e).drop (k + 1))) := HNXT.out (by simp) (fun h => hk1 h.1)
            clear hoc HOPN HNXT HBAD hho
            go_wp2
            go_roundw
            case rel => exact ⟨k + 1, by omega, by go_num, E1.out, hb⟩
            case measure => simp [intOf]; omega
        · have hC' : (C != 0) = true := by simpa using hC
          have E1 : Hid (E = C) := HBAD.out hC
          clear hoc HOPN HNXT HBAD hho
          go_wp2
          go_ret
          exact ⟨by rw [E1.out]; rfl, hb⟩
      · have E1 : Hid (E = 0) := by rw [HG.out]; exact ordGo_end _ k (by simp; omega)
        clear HG
        go_wp2
        go_ret
        exact ⟨by rw [E1.out]; rfl, hb⟩

set_option maxHeartbeats 4000000 in
theorem l7Fault_any (v : Value) (ps : List InstQ) (w : World) (h : instK.At w v ps) (hl : (ps.length + nmL InstQ.n ps) ≤ 1048576) :
    Calls Tryz.prog 93 #[v] w fun e w' => e = .returned (.int .i64 (ordF (ps.map InstQ.e))) ∧ Below w.heap.size w w' := by
  obtain ⟨a, cap, rfl⟩ := h.shape
  generalize hE : ordF (ps.map InstQ.e) = E
  have HE : Hid (ordF (ps.map InstQ.e) = E) := hE
  clear hE
  by_cases hlen : ps.length < 1 ∨ 4 < ps.length
  · have E1 : Hid (E = 2) := by
      have := HE.out
      unfold ordF at this
      rw [if_pos (by simpa using hlen)] at this
      exact this.symm
    clear HE
    rcases hlen with hlen | hlen
    · go_enter Tryz.func93, Tryz.ntmps93
      go_wp2
      go_ret
      exact ⟨by rw [E1.out]; rfl, Below.refl _ _⟩
    · have h1 : ¬ ps.length < 1 := by omega
      go_enter Tryz.func93, Tryz.ntmps93
      go_wp2
      go_ret
      exact ⟨by rw [E1.out]; rfl, Below.refl _ _⟩
  · have HG : Hid (E = ordGo (ps.map InstQ.e)) := by
      have := HE.out
      unfold ordF at this
      rw [if_neg (by simpa using hlen)] at this
      exact this.symm
    have h1 : ¬ ps.length < 1 := by omega
    have h4 : ps.length ≤ 4 := by omega
    clear HE hlen
    go_enter Tryz.func93, Tryz.ntmps93
    go_wp2
    go_loopw [3] (fun i wr => ∃ k : Nat, k ≤ ps.length ∧ i = .int .i64 k ∧ Hid (E = ordGo ((ps.map InstQ.e).drop k)) ∧ Below w.heap.size w wr) (fun i _ => ps.length - (intOf i).toNat)
    case atStart => exact ⟨0, Nat.zero_le _, rfl, HG, Below.refl _ _⟩
    case round =>
      clear HG
      obtain ⟨k, hk, rfl, HG, hb⟩ := hrel
      by_cases hlt : k < ps.length
      · have hat := inst_at ps k hlt
        have HBAD : Hid (insF (InstQ.e ps[k]) ≠ 0 → E = insF (InstQ.e ps[k])) := fun hx => by
          rw [HG.out, ordGo_bad _ k (by simpa using hlt) (by rw [hat]; exact hx), hat]
        have HOPN : Hid (k + 1 < ps.length → insF (InstQ.e ps[k]) = 0 → outV (InstQ.e ps[k]).dec = 3 → E = 8) := fun h1 h2 h3 => by
          rw [HG.out, ordGo_open _ k (by simpa using h1) (by rw [hat]; exact h2) (by rw [hat]; exact h3)]
        have HNXT : Hid (insF (InstQ.e ps[k]) = 0 → ¬ (k + 1 < ps.length ∧ outV (InstQ.e ps[k]).dec = 3) → E = ordGo ((ps.map InstQ.e).drop (k + 1))) := fun h2 h3 => by
          rw [HG.out, ordGo_next _ k (by simpa using hlt) (by rw [hat]; exact h2) (by rw [hat]; simpa using h3)]
        obtain ⟨b, off, rfl, hbs, hP⟩ := instP_at (h.below hb) k hlt
        have hn : InstQ.n ps[k] ≤ 1048576 := by have := nmI_le ps k hlt; omega
        have hif0 := l6Fault_any b (off + k * 4) ps[k]
        have hho0 := l6Outcome_any b (off + k * 4) ps[k]
        have hif := fun w hP => hif0 w hP hn
        have hho := fun w hP => hho0 w hP hn
        clear hif0 hho0
        have ho2 : outV (InstQ.e ps[k]).dec = outV ps[k].dec := rfl
        rw [ho2] at HOPN HNXT
        clear hat HG ho2
        generalize outV ps[k].dec = OV at *
        generalize insF (InstQ.e ps[k]) = C at *
        generalize ps[k] = p at *
        go_wp2_with fail
        refine (hif wr hP).mono ?_
        rintro e w2 ⟨rfl, hb2⟩
        replace hP := hP.below hb2
        replace hb := hb.trans (hb2.mono hb.size)
        clear hb2 hif
        by_cases hC : C = 0
        · subst hC
          by_cases hk1 : k + 1 < ps.length
          · have hk2 : (k : Int) < (ps.length : Int) - 1 := by omega
            go_wp2_with fail
            refine (hho w2 hP).mono ?_
            rintro e w3 ⟨rfl, hw⟩
            replace hw := hw.symm
            subst hw
            clear hho hP
            by_cases hO : OV = 3
            · have E1 : Hid (E = 8) := HOPN.out hk1 (by simp) hO
              have hO' : (OV == 3) = true := by simpa using hO
              clear HOPN HNXT HBAD hO
              go_wp2
              go_ret
              exact ⟨by rw [E1.out]; rfl, hb⟩
            · have hO' : (OV == 3) = false := by simpa using hO
              have E1 : Hid (E = ordGo ((ps.map InstQ.e).drop (k + 1))) := HNXT.out (by simp) (fun h => hO h.2)
              clear HOPN HNXT HBAD hO
              go_wp2
              go_roundw
              case rel => exact ⟨k + 1, by omega, by go_num, E1.out, hb⟩
              case measure => simp [intOf]; omega
          · have hk2 : ¬ (k : Int) < (ps.length : Int) - 1 := by omega
            have E1 : Hid (E = ordGo ((ps.map InstQ.e).drop (k + 1))) := HNXT.out (by simp) (fun h => hk1 h.1)
            clear HOPN HNXT HBAD hho
            go_wp2
            go_roundw
            case rel => exact ⟨k + 1, by omega, by go_num, E1.out, hb⟩
            case measure => simp [intOf]; omega
        · have hC' : (C != 0) = true := by simpa using hC
          have E1 : Hid (E = C) := HBAD.out hC
          clear HOPN HNXT HBAD hho
          go_wp2
          go_ret
          exact ⟨by rw [E1.out]; rfl, hb⟩
      · have E1 : Hid (E = 0) := by rw [HG.out]; exact ordGo_end _ k (by simp; omega)
        clear HG
        go_wp2
        go_ret
        exact ⟨by rw [E1.out]; rfl, hb⟩

end Go.Proofs.YtmgkjcobdmdjmaaGreatDoor
namespace Go.Proofs.YtmgkjcobdmdjmaaGreatDoor
open Go.RowKit
open Go.BigFrame
set_option linter.unusedVariables false
set_option maxRecDepth 100000
set_option linter.unusedSimpArgs false
def diV (ds : List InstE) : Int := if ordF ds = 0 then (decN ds : Int) else 0

theorem last_at (ps : List InstQ) (hlt : ps.length - 1 < ps.length) : lastE (ps.map InstQ.e) = InstQ.e ps[ps.length - 1] := by
  unfold lastE
  rw [List.length_map]
  exact inst_at ps _ hlt

set_option maxHeartbeats 4000000 in
theorem implDecidedIn_any (v : Value) (ps : List InstQ) (w : World) (hG : Rul w) (h : instK.At w v ps) (hl : (ps.length + nmL InstQ.n ps) ≤ 1048576) :
    Calls Tryz.prog 30 #[v] w fun e w' => e = .returned (.agg #[.int .i64 (ordF (ps.map InstQ.e)), .int .i64 (diV (ps.map InstQ.e))]) ∧ Below w.heap.size w w' := by
  have hof := fun w hG h => implOrderFault_any v ps w hG h hl
  have HO : Hid (ordF (ps.map InstQ.e) = 0 → 1 ≤ ps.length ∧ ps.length ≤ 4 ∧ ∀ q ∈ ps, insF (InstQ.e q) = 0) := fun h0 => by
    have := ((ord_iff _).1 h0).1
    rw [List.length_map] at this
    exact ⟨this.1, this.2, fun q hq => ord_mem h0 _ (List.mem_map.2 ⟨q, hq, rfl⟩)⟩
  have HV : Hid ((ordF (ps.map InstQ.e) = 0 → diV (ps.map InstQ.e) = (decN (ps.map InstQ.e) : Int)) ∧ (ordF (ps.map InstQ.e) ≠ 0 → diV (ps.map InstQ.e) = 0)) := ⟨fun h0 => if_pos h0, fun h0 => if_neg h0⟩
  obtain ⟨a, cap, rfl⟩ := h.shape
  generalize ordF (ps.map InstQ.e) = C at *
  generalize diV (ps.map InstQ.e) = V at *
  have hB : Below w.heap.size w (w.alloc (.cells #[.int .i64 0, .int .i64 0] 56)) := by go_grown
  have Rb := Blk.new w 56 #[.int .i64 0, .int .i64 0]
  go_enter Tryz.func30, Tryz.ntmps30
  go_wp2_with fail
  generalize w.alloc (.cells #[.int .i64 0, .int .i64 0] 56) = W at *
  refine (hof W (hG.below hB) (h.below hB)).mono ?_
  rintro e w1 ⟨rfl, hb⟩
  replace hB := hB.trans (hb.mono hB.size)
  replace Rb := Rb.below hb
  clear hb hof
  by_cases hC : C = 0
  · obtain ⟨h1, h4, hin⟩ := HO.out hC
    have hv := HV.out.1 hC
    subst hC
    have hlt : ps.length - 1 < ps.length := by omega
    have hin2 := hin _ (List.getElem_mem hlt)
    have hoc := oc_eq (InstQ.e ps[ps.length - 1])
    have HV3 : Hid (outV (InstQ.e ps[ps.length - 1]).dec = 3 → V = (ps.length : Int) - 1) := fun h3 => by
      rw [hv]
      unfold decN
      rw [last_at ps hlt, if_pos h3, List.length_map]
      omega
    have HVn : Hid (outV (InstQ.e ps[ps.length - 1]).dec ≠ 3 → V = (ps.length : Int)) := fun h3 => by
      rw [hv]
      unfold decN
      rw [last_at ps hlt, if_neg h3, List.length_map]
    rw [hin2] at hoc
    have hn : InstQ.n ps[ps.length - 1] ≤ 1048576 := by have := nmI_le ps _ hlt; omega
    have hho0 := hasOutcome_any ps[ps.length - 1]
    have hho := fun w hG h => hho0 w hG h hn
    clear hho0 hin hin2 hv HV HO hn
    obtain ⟨b, off, rfl, hbs, hc, hrd⟩ := (h.below hB).cell (by decide) (ps.length - 1) hlt
    have hc' : ∀ j x, (instK.cells ps[ps.length - 1])[j]? = some x → w1.cell? ⟨b, off + (ps.length - 1) * 4 + j, none⟩ = some x := hc
    have c0 := hc' 0 (.bool ps[ps.length - 1].has) rfl
    have c1 := hc' 1 ps[ps.length - 1].vb rfl
    have c2 := hc' 2 ps[ps.length - 1].vr rfl
    have c3 := hc' 3 ps[ps.length - 1].vd rfl
    rw [Nat.add_zero] at c0
    clear hc hc'
    have hidx : ((ps.length : Int) - 1).toNat = ps.length - 1 := by omega
    generalize ocC (InstQ.e ps[ps.length - 1]) = OC at *
    generalize outV (InstQ.e ps[ps.length - 1]).dec = OV at *
    generalize ps[ps.length - 1] = p at *
    generalize hm : ps.length - 1 = m at *
    have hpl : (ps.length : Int) - 1 = (m : Int) := by omega
    have hpl2 : ps.length = m + 1 := by omega
    rw [hpl] at HV3
    rw [hpl2] at h4 HVn ⊢
    rw [hpl2] at *
    clear hm hidx hpl hpl2
    obtain ⟨has, vb, batch, vr, rounds, vd, dec⟩ := p
    obtain ⟨ba, bk, rfl⟩ : ∃ a c, vb = .slice a batch.length c := hrd.1.shape
    obtain ⟨va, vk, rfl⟩ : ∃ a c, vr = .slice a rounds.length c := hrd.2.1.shape
    obtain ⟨da, dk, rfl⟩ : ∃ a c, vd = .slice a dec.length c := hrd.2.2.shape
    dsimp only at c0 c1 c2 c3 hho
    have q0 := Rb.cell 0 _ rfl
    have q1 := Rb.cell 1 _ rfl
    have f0 := Rb.frozen 0
    have f1 := Rb.frozen 1
    clear q0 q1 f0 f1
    go_wp2_with fail
    refine (hho w1 (hG.below hB) hrd).mono ?_
    rintro e w3 ⟨rfl, hb3⟩
    replace hB := hB.trans (hb3.mono hB.size)
    replace Rb := Rb.below hb3
    have q0 := Rb.cell 0 _ rfl
    have q1 := Rb.cell 1 _ rfl
    have f0 := Rb.frozen 0
    have f1 := Rb.frozen 1
    clear hb3 hho c0 c1 c2 c3
    by_cases hO : OV = 3
    · have e1 : (OC == 0) = false := by rw [hoc, hO]; rfl
      have E1 : Hid (V = (m : Int)) := HV3.out hO
      clear hoc HV3 HVn
      go_wp2
      exact bodyPost_ret (v := .agg #[.int .i64 0, .int .i64 m]) (by simp [results, Tryz.results30, go_sem, q0, q1]) rfl ⟨by rw [E1.out], (hB.setCell (p := ⟨w.heap.size, 0, none⟩) (Nat.le_refl _) _).setCell (p := ⟨w.heap.size, 1, none⟩) (Nat.le_refl _) _⟩
    · have e1 : (OC == 0) = true := by
        rw [hoc]
        have : (OV != 3) = true := by simpa using hO
        rw [this]; rfl
      have E1 : Hid (V = (m : Int) + 1) := by have := HVn.out hO; exact this.trans (by omega)
      clear hoc HV3 HVn
      go_wp2
      exact bodyPost_ret (v := .agg #[.int .i64 0, .int .i64 ((m : Int) + 1)]) (by simp [results, Tryz.results30, go_sem, q0, q1]) rfl ⟨by rw [E1.out], (hB.setCell (p := ⟨w.heap.size, 0, none⟩) (Nat.le_refl _) _).setCell (p := ⟨w.heap.size, 1, none⟩) (Nat.le_refl _) _⟩
  · have E1 : Hid (V = 0) := HV.out.2 hC
    have hC' : (C != 0) = true := by simpa using hC
    have q0 := Rb.cell 0 _ rfl
    have q1 := Rb.cell 1 _ rfl
    have f0 := Rb.frozen 0
    have f1 := Rb.frozen 1
    clear HV HO
    go_wp2
    exact bodyPost_ret (v := .agg #[.int .i64 C, .int .i64 0]) (by simp [results, Tryz.results30, go_sem, q0, q1]) rfl ⟨by rw [E1.out], (hB.setCell (p := ⟨w.heap.size, 0, none⟩) (Nat.le_refl _) _).setCell (p := ⟨w.heap.size, 1, none⟩) (Nat.le_refl _) _⟩

set_option maxHeartbeats 4000000 in
theorem l7Decided_any (v : Value) (ps : List InstQ) (w : World) (h : instK.At w v ps) (hl : (ps.length + nmL InstQ.n ps) ≤ 1048576) (h1 : 1 ≤ ps.length) (h4 : ps.length ≤ 4) :
    Calls Tryz.prog 102 #[v] w fun e w' => e = .returned (.int .i64 (decN (ps.map InstQ.e))) ∧ Below w.heap.size w w' := by
  obtain ⟨a, cap, rfl⟩ := h.shape
  have hlt : ps.length - 1 < ps.length := by omega
  obtain ⟨V, hv⟩ : ∃ V : Int, (decN (ps.map InstQ.e) : Int) = V := ⟨_, rfl⟩
  have HV3 : Hid (outV ps[ps.length - 1].dec = 3 → V = (ps.length : Int) - 1) := fun h3 => by
    rw [← hv]
    unfold decN
    rw [last_at ps hlt, if_pos (show outV (InstQ.e ps[ps.length - 1]).dec = 3 from h3), List.length_map]
    omega
  have HVn : Hid (outV ps[ps.length - 1].dec ≠ 3 → V = (ps.length : Int)) := fun h3 => by
    rw [← hv]
    unfold decN
    rw [last_at ps hlt, if_neg (show ¬ outV (InstQ.e ps[ps.length - 1]).dec = 3 from h3), List.length_map]
  rw [hv]
  have hn : InstQ.n ps[ps.length - 1] ≤ 1048576 := by have := nmI_le ps _ hlt; omega
  obtain ⟨b, off, rfl, hbs, hP⟩ := instP_at h (ps.length - 1) hlt
  have hho0 := l6Outcome_any b (off + (ps.length - 1) * 4) ps[ps.length - 1]
  have hho := hho0 w hP hn
  clear hho0 hn hv h
  generalize outV ps[ps.length - 1].dec = OV at *
  generalize ps[ps.length - 1] = p at *
  generalize hm : ps.length - 1 = m at *
  have hpl : (ps.length : Int) - 1 = (m : Int) := by omega
  have hpl2 : ps.length = m + 1 := by omega
  rw [hpl] at HV3
  rw [hpl2] at h4 HVn ⊢
  clear hm hpl hpl2 hl h1 hlt
  go_enter Tryz.func102, Tryz.ntmps102
  go_wp2_with fail
  refine hho.mono ?_
  rintro e w3 ⟨rfl, hw⟩
  replace hw := hw.symm
  subst hw
  clear hho hP
  by_cases hO : OV = 3
  · have e1 : (OV == 3) = true := by simpa using hO
    have E1 : Hid (V = (m : Int)) := HV3.out hO
    clear HV3 HVn hO
    go_wp2
    go_ret
    exact ⟨by rw [E1.out]; rfl, Below.refl _ _⟩
  · have e1 : (OV == 3) = false := by simpa using hO
    have E1 : Hid (V = (m : Int) + 1) := by have := HVn.out hO; exact this.trans (by omega)
    clear HV3 HVn hO
    go_wp2
    go_ret
    exact ⟨by rw [E1.out]; rfl, Below.refl _ _⟩

end Go.Proofs.YtmgkjcobdmdjmaaGreatDoor
namespace Go.Proofs.YtmgkjcobdmdjmaaGreatDoor
open Go.RowKit
open Go.BigFrame
set_option linter.unusedVariables false
set_option maxRecDepth 100000
set_option linter.unusedSimpArgs false
end Go.Proofs.YtmgkjcobdmdjmaaGreatDoor

/- Lists of nodes, and clusters: the kind of their cells; what the helpers of the laws do with them. No condition. -/
import Derived.Test.YtkkdjgiencilbaaNd11
import Derived.Test.YtkkdjgiencilbaaKIs
import Derived.Test.YtkkdjgiencilbaaFoot3
namespace Go.Proofs.Ytkkdjgiencilbaa
open Go.RowKit
open Go.BigFrame
set_option linter.unusedVariables false
set_option linter.unusedSimpArgs false
set_option maxRecDepth 100000

/-- A node where it lies. -/
structure NodeQ where
  kn : Int
  sf : Int
  vd : Value
  done : List TxnQ
  vb : Value
  base : List ItemD
  vt : Value
  tent : List TxnQ
  vu : Value
  undos : List USQ
  vn : Value
  now : List ItemD
/-- What it tells. -/
structure NodeE where
  kn : Int
  sf : Int
  rep : RepE
def NodeQ.r (p : NodeQ) : RepQ := ⟨p.vd, p.done, p.vb, p.base, p.vt, p.tent, p.vu, p.undos, p.vn, p.now⟩
def NodeQ.of (kn sf : Int) (r : RepQ) : NodeQ := ⟨kn, sf, r.vd, r.done, r.vb, r.base, r.vt, r.tent, r.vu, r.undos, r.vn, r.now⟩
def NodeQ.e (p : NodeQ) : NodeE := ⟨p.kn, p.sf, p.r.e⟩
def NodeQ.n (p : NodeQ) : Nat := p.r.n
def NodeQ.wf (p : NodeQ) : Prop := p.r.wf
def nodeK : Kind NodeQ where
  ty := 79
  size := 7
  cells p := [.int .i64 p.kn, .int .i64 p.sf, p.vd, p.vb, p.vt, p.vu, p.vn]
  own w p := repK.own w p.r
  rd w p := repK.rd w p.r
  foot p := repK.foot p.r
  len _ := rfl
  own_rd h := repK.own_rd h
  own_out h ho hd := repK.own_out h ho hd
  own_lt h := repK.own_lt h
  rd_below h hb := repK.rd_below h hb

theorem infoNode12 : (Try.prog.info? 79).map (fun i => (i.zero, i.size, i.bytes)) = some (some (.agg #[.int .i64 0, .int .i64 0, .slice none 0 0, .slice none 0 0, .slice none 0 0, .slice none 0 0, .slice none 0 0]), 7, 136) := by kernel_rfl

theorem szNode_l (p : NodeQ) (c : Int) (w : World) (h : nodeK.rd w p) (hn : NodeQ.wf p) (h0 : 0 ≤ c) (h1 : c ≤ 1048576) :
    Calls Try.prog 56 #[.agg #[.int .i64 p.kn, .int .i64 p.sf, p.vd, p.vb, p.vt, p.vu, p.vn], .int .i64 c] w fun e w' => ∃ r : Int, e = .returned (.int .i64 r) ∧ (¬ r < 0 → (NodeQ.n p : Int) + r = c) ∧ Below w.heap.size w w' :=
  szNode_k p.kn p.sf p.r c w h hn h0 h1

theorem eqNode_l (p p' : NodeQ) (w : World) (h : nodeK.rd w p) (h' : nodeK.rd w p') (he : p.e = p'.e) (hl : NodeQ.n p ≤ 1048576) :
    Calls Try.prog 66 #[.agg #[.int .i64 p.kn, .int .i64 p.sf, p.vd, p.vb, p.vt, p.vu, p.vn], .agg #[.int .i64 p'.kn, .int .i64 p'.sf, p'.vd, p'.vb, p'.vt, p'.vu, p'.vn]] w fun e w' => e = .returned (.bool true) ∧ Below w.heap.size w w' := by
  simp only [NodeQ.e, NodeE.mk.injEq] at he
  obtain ⟨e1, e2, e3⟩ := he
  rw [← e1, ← e2]
  exact eqNode_k p.kn p.sf p.r p'.r w h h' e3 hl

theorem toNode_l (p : NodeQ) (w : World) (h : nodeK.rd w p) (hl : NodeQ.n p ≤ 1048576) :
    Calls Try.prog 60 #[.agg #[.int .i64 p.kn, .int .i64 p.sf, p.vd, p.vb, p.vt, p.vu, p.vn]] w fun e w' => ∃ p' : NodeQ, e = .returned (.agg #[.int .i64 p'.kn, .int .i64 p'.sf, p'.vd, p'.vb, p'.vt, p'.vu, p'.vn]) ∧ p'.e = p.e ∧ nodeK.own w' p' ∧ (nodeK.foot p').Nodup ∧ (∀ k ∈ nodeK.foot p', w.heap.size ≤ k) ∧ Below w.heap.size w w' := by
  refine (toNode_k p.kn p.sf p.r w h hl).mono ?_
  rintro e w' ⟨q, rfl, hE, hO, hN, hG, hb⟩
  refine ⟨NodeQ.of p.kn p.sf q, rfl, ?_, hO, hN, hG, hb⟩
  show (⟨p.kn, p.sf, q.e⟩ : NodeE) = ⟨p.kn, p.sf, p.r.e⟩
  rw [hE]

set_option maxHeartbeats 1000000 in
theorem szNodes_k (v : Value) (ps : List NodeQ) (c : Int) (w : World) (h : nodeK.At w v ps) (hn : ps.length ≤ 9223372036854775807) (hn1 : ∀ p ∈ ps, NodeQ.wf p) (h0 : 0 ≤ c) (h1 : c ≤ 1048576) :
    Calls Try.prog 29 #[v, .int .i64 c] w fun e w' => ∃ r : Int, e = .returned (.int .i64 r) ∧ (¬ r < 0 → ((ps.length + nmL NodeQ.n ps : Nat) : Int) + r = c) ∧ Below w.heap.size w w' := by
  obtain ⟨a, cap, rfl⟩ := h.shape
  by_cases hbig : c - ps.length < 0
  · go_enter Try.func29, Try.ntmps29
    go_wp2
    go_ret
    exact ⟨_, rfl, fun h => by omega, Below.refl _ _⟩
  · go_enter Try.func29, Try.ntmps29
    go_wp2
    go_loopw [1, 5] (fun l i wr => ∃ (k : Nat) (x : Int), k ≤ ps.length ∧ i = .int .i64 k ∧ l = .int .i64 x ∧ 0 ≤ x ∧ x ≤ 1048576 ∧ Hid (ps.length + nmL NodeQ.n (ps.take k) + x = c) ∧ Below w.heap.size w wr) (fun _ i _ => ps.length - (intOf i).toNat)
    case atStart => exact ⟨0, c - ps.length, Nat.zero_le _, rfl, by go_num, by omega, by omega, show _ = _ by simp [nmL]; omega, Below.refl _ _⟩
    case round =>
      obtain ⟨k, x, hk, rfl, rfl, hx0, hx1, HS, hb⟩ := hrel
      by_cases hlt : k < ps.length
      · obtain ⟨b, off, rfl, hbs, hc, hrd⟩ := (h.below hb).cell (by decide) k hlt
        have hc' : ∀ j x, (nodeK.cells ps[k])[j]? = some x → wr.cell? ⟨b, off + k * 7 + j, none⟩ = some x := hc
        have c0 := hc' 0 (.int .i64 ps[k].kn) rfl
        have c1 := hc' 1 (.int .i64 ps[k].sf) rfl
        have c2 := hc' 2 (ps[k].vd) rfl
        have c3 := hc' 3 (ps[k].vb) rfl
        have c4 := hc' 4 (ps[k].vt) rfl
        have c5 := hc' 5 (ps[k].vu) rfl
        have c6 := hc' 6 (ps[k].vn) rfl
        have hs := nmL_succ NodeQ.n ps k hlt
        have HN := hn1 _ (List.getElem_mem hlt)
        have HS' : Hid (∀ y : Int, (NodeQ.n ps[k] : Int) + y = x → ps.length + nmL NodeQ.n (ps.take (k + 1)) + y = c) := by
          intro y hy
          have := HS.out
          omega
        clear HS hs hc hc'
        generalize ps[k] = p at *
        have hsz := szNode_l p x wr hrd HN hx0 hx1
        generalize NodeQ.n p = m at *
        rw [Nat.add_zero] at c0
        go_wp2_with fail
        refine hsz.mono ?_
        rintro e w2 ⟨r, rfl, hr, hb2⟩
        replace hb := hb.trans (hb2.mono hb.size)
        clear hb2 hsz c0 c1 c2 c3 c4 c5 c6
        by_cases hneg : r < 0
        · go_wp2
          go_ret
          exact ⟨_, rfl, fun h => by omega, hb⟩
        · have hrx := hr (by omega)
          have HR : Hid (ps.length + nmL NodeQ.n (ps.take (k + 1)) + r = c) := HS'.out r hrx
          have hr1 : r ≤ 1048576 := by omega
          clear HS' hr hrx
          go_wp2
          go_roundw
          case rel => exact ⟨k + 1, r, by omega, by go_num, rfl, by omega, hr1, HR.out, hb⟩
          case measure => simp [intOf]; omega
      · have hkl : k = ps.length := by omega
        subst hkl
        rw [List.take_length] at HS
        go_wp2
        go_ret
        exact ⟨_, rfl, fun _ => by have := HS.out; omega, hb⟩

set_option maxHeartbeats 2000000 in
theorem eqNodes_k (v v' : Value) (ps qs : List NodeQ) (w : World) (h : nodeK.At w v ps) (h' : nodeK.At w v' qs) (he : ps.map NodeQ.e = qs.map NodeQ.e) (hl : (ps.length + nmL NodeQ.n ps) ≤ 1048576) :
    Calls Try.prog 37 #[v, v'] w fun e w' => e = .returned (.bool true) ∧ Below w.heap.size w w' := by
  obtain ⟨a, cap, rfl⟩ := h.shape
  obtain ⟨a', cap', rfl⟩ := h'.shape
  have hlen : qs.length = ps.length := by
    have := congrArg List.length he
    simpa using this.symm
  rw [hlen] at h' ⊢
  have HL : Hid (qs.length = ps.length) := hlen
  clear hlen
  go_enter Try.func37, Try.ntmps37
  go_wp2
  go_loopw [5] (fun i wr => ∃ k : Nat, k ≤ ps.length ∧ i = .int .i64 k ∧ Below w.heap.size w wr) (fun i _ => ps.length - (intOf i).toNat)
  case atStart => exact ⟨0, Nat.zero_le _, rfl, Below.refl _ _⟩
  case round =>
    obtain ⟨k, hk, rfl, hb⟩ := hrel
    by_cases hlt : k < ps.length
    · have hlt' : k < qs.length := by have := HL.out; omega
      obtain ⟨b, off, rfl, hbs, hc, hrd⟩ := (h.below hb).cell (by decide) k hlt
      obtain ⟨b', off', rfl, hbs', hd, hrd'⟩ := (h'.below hb).cell (by decide) k hlt'
      have hc' : ∀ j x, (nodeK.cells ps[k])[j]? = some x → wr.cell? ⟨b, off + k * 7 + j, none⟩ = some x := hc
      have hd' : ∀ j x, (nodeK.cells qs[k])[j]? = some x → wr.cell? ⟨b', off' + k * 7 + j, none⟩ = some x := hd
      have c0 := hc' 0 (.int .i64 ps[k].kn) rfl
      have d0 := hd' 0 (.int .i64 qs[k].kn) rfl
      have c1 := hc' 1 (.int .i64 ps[k].sf) rfl
      have d1 := hd' 1 (.int .i64 qs[k].sf) rfl
      have c2 := hc' 2 (ps[k].vd) rfl
      have d2 := hd' 2 (qs[k].vd) rfl
      have c3 := hc' 3 (ps[k].vb) rfl
      have d3 := hd' 3 (qs[k].vb) rfl
      have c4 := hc' 4 (ps[k].vt) rfl
      have d4 := hd' 4 (qs[k].vt) rfl
      have c5 := hc' 5 (ps[k].vu) rfl
      have d5 := hd' 5 (qs[k].vu) rfl
      have c6 := hc' 6 (ps[k].vn) rfl
      have d6 := hd' 6 (qs[k].vn) rfl
      have hee : NodeQ.e ps[k] = NodeQ.e qs[k] := by
        have := congrArg (·[k]?) he
        simpa [hlt, hlt'] using this
      have hzl := nm_le NodeQ.n ps k hlt
      clear hc hc' hd hd'
      generalize ps[k] = p at *
      generalize qs[k] = p' at *
      have hEQ := fun w h1 h2 => eqNode_l p p' w h1 h2 hee (show NodeQ.n p ≤ 1048576 by omega)
      clear hee hzl
      rw [Nat.add_zero] at c0 d0
      have k0 := lat_cell c0
      have l0 := lat_cell d0
      have k1 := lat_cell c1
      have l1 := lat_cell d1
      have k2 := lat_cell c2
      have l2 := lat_cell d2
      have k3 := lat_cell c3
      have l3 := lat_cell d3
      have k4 := lat_cell c4
      have l4 := lat_cell d4
      have k5 := lat_cell c5
      have l5 := lat_cell d5
      have k6 := lat_cell c6
      have l6 := lat_cell d6
      clear c0 d0 c1 d1 c2 d2 c3 d3 c4 d4 c5 d5 c6 d6
      have hW : Below wr.heap.size wr wr.drew := (Below.refl _ _).drew
      have hne : Nonempty (Lat wr) := ⟨⟨wr, Below.refl _ _⟩⟩
      go_wp2_with fail
      refine text_begin (S := fun w' => ∃ u : Lat wr, w' = u.val) (by kernel_rfl) ?_
      refine sgr [(0, 8)] 2 (by kernel_rfl) ⟨⟨_, hW⟩, rfl⟩ ?_
      simp only [pkE]
      repeat go_big_quiet_step (fail)
      refine wpQuiet_nil ?_
      refine cla 8 (some 25) 66 #[.agg #[.int .i64 p.kn, .int .i64 p.sf, p.vd, p.vb, p.vt, p.vu, p.vn], .agg #[.int .i64 p'.kn, .int .i64 p'.sf, p'.vd, p'.vb, p'.vt, p'.vu, p'.vn]] 1 (by kernel_rfl) ?_
      refine (hEQ _ (nodeK.rd_below hrd hW) (nodeK.rd_below hrd' hW)).mono ?_
      rintro e w2 ⟨rfl, hb2⟩
      replace hW := hW.trans (hb2.mono hW.size)
      clear hb2
      refine ⟨_, rfl, ⟨⟨_, hW⟩, rfl⟩, ?_⟩
      simp only [Act.put, pjE]
      refine sgr [(9, 1)] 0 (by kernel_rfl) ⟨⟨_, hW⟩, rfl⟩ ?_
      simp only [pkE]
      repeat go_big_quiet_step (fail)
      refine wpQuiet_nil ?_
      refine text_end (by kernel_rfl) ?_
      replace hb := hb.trans (hW.mono hb.size)
      clear k0 l0 k1 l1 k2 l2 k3 l3 k4 l4 k5 l5 k6 l6 hW hne hrd hrd' hEQ
      go_wp2
      go_roundw
      case rel => exact ⟨k + 1, by omega, by go_num, hb⟩
      case measure => simp [intOf]; omega
    · go_wp2
      go_ret
      exact ⟨rfl, hb⟩

set_option maxHeartbeats 2000000 in
theorem toNodes_k (v : Value) (ps : List NodeQ) (w : World) (h : nodeK.At w v ps) (hl : (ps.length + nmL NodeQ.n ps) ≤ 1048576) :
    Calls Try.prog 32 #[v] w fun e w' => ∃ v' qs, e = .returned v' ∧ qs.map NodeQ.e = ps.map NodeQ.e ∧ nodeK.Own w' v' qs ∧ (nodeK.fp v' qs).Nodup ∧ (∀ k ∈ nodeK.fp v' qs, w.heap.size ≤ k) ∧ Below w.heap.size w w' := by
  obtain ⟨a, cap, rfl⟩ := h.shape
  obtain ⟨i0, hi, hz0, hz1, hz2⟩ := info_parts infoNode12
  have hbytes : i0.bytes * ps.length ≤ 281474976710656 := by rw [hz2]; omega
  have hmax : ps.length ≤ maxLen := by unfold maxLen; omega
  go_enter Try.func32, Try.ntmps32
  go_wp2_with (at_make; refine wpList_make_full _ rfl _ _ 29 rfl w.heap.size 79 i0 (.agg #[.int .i64 0, .int .i64 0, .slice none 0 0, .slice none 0 0, .slice none 0 0, .slice none 0 0, .slice none 0 0]) 7 Try.underlying29 hi hz0 hz1 _ _ _ _ ps.length rfl rfl rfl rfl hbytes hmax (Nat.le_refl _) ?_)
  intro w1 hown hgrow
  have hb1 : Below w.heap.size w w1 := (Below.refl _ _).grown hgrow (Nat.le_refl _) (by simp)
  have hO : nodeK.Own w1 (.slice (some ⟨w.heap.size, 0, none⟩) ps.length ps.length) (List.replicate ps.length (⟨0, 0, .slice none 0 0, [], .slice none 0 0, [], .slice none 0 0, [], .slice none 0 0, [], .slice none 0 0, []⟩ : NodeQ)) := by
    refine ⟨?_, fun p hp => ?_⟩
    · rw [List.length_replicate, ← made_row (⟨0, 0, .slice none 0 0, [], .slice none 0 0, [], .slice none 0 0, [], .slice none 0 0, [], .slice none 0 0, []⟩ : NodeQ) _ (by decide)]
      exact own_base hown (Nat.zero_le _)
    · rw [(List.mem_replicate.1 hp).2]
      exact ⟨(Kind.own_nil _).1, (Kind.own_nil _).1, (Kind.own_nil _).1, (Kind.own_nil _).1, (Kind.own_nil _).1⟩
  have hF : nodeK.fp (.slice (some ⟨w.heap.size, 0, none⟩) ps.length ps.length) (List.replicate ps.length (⟨0, 0, .slice none 0 0, [], .slice none 0 0, [], .slice none 0 0, [], .slice none 0 0, [], .slice none 0 0, []⟩ : NodeQ)) = [w.heap.size] := fp_new rfl
  have HN : Hid ((nodeK.fp (.slice (some ⟨w.heap.size, 0, none⟩) ps.length ps.length) (List.replicate ps.length (⟨0, 0, .slice none 0 0, [], .slice none 0 0, [], .slice none 0 0, [], .slice none 0 0, [], .slice none 0 0, []⟩ : NodeQ))).Nodup) := by rw [hF]; show List.Nodup _; simp
  have HG : Hid (∀ x ∈ nodeK.fp (.slice (some ⟨w.heap.size, 0, none⟩) ps.length ps.length) (List.replicate ps.length (⟨0, 0, .slice none 0 0, [], .slice none 0 0, [], .slice none 0 0, [], .slice none 0 0, [], .slice none 0 0, []⟩ : NodeQ)), w.heap.size ≤ x) := by rw [hF]; intro x hx; simp at hx; omega
  have HZ : Hid (∀ j (hj : j < (List.replicate ps.length (⟨0, 0, .slice none 0 0, [], .slice none 0 0, [], .slice none 0 0, [], .slice none 0 0, [], .slice none 0 0, []⟩ : NodeQ)).length), 0 ≤ j → (List.replicate ps.length (⟨0, 0, .slice none 0 0, [], .slice none 0 0, [], .slice none 0 0, [], .slice none 0 0, [], .slice none 0 0, []⟩ : NodeQ))[j] = (⟨0, 0, .slice none 0 0, [], .slice none 0 0, [], .slice none 0 0, [], .slice none 0 0, [], .slice none 0 0, []⟩ : NodeQ)) := fun j hj _ => by simp
  have hql : (List.replicate ps.length (⟨0, 0, .slice none 0 0, [], .slice none 0 0, [], .slice none 0 0, [], .slice none 0 0, [], .slice none 0 0, []⟩ : NodeQ)).length = ps.length := by simp
  clear hown hgrow hF
  generalize List.replicate ps.length (⟨0, 0, .slice none 0 0, [], .slice none 0 0, [], .slice none 0 0, [], .slice none 0 0, [], .slice none 0 0, []⟩ : NodeQ) = qs0 at *
  have HE : Hid ((qs0.take 0).map NodeQ.e = (ps.take 0).map NodeQ.e) := show _ = _ by simp
  go_wp2
  go_loopw [4] (fun i wr => ∃ (k : Nat) (qs : List NodeQ), k ≤ ps.length ∧ i = .int .i64 k ∧ Hid (qs.length = ps.length) ∧ Hid ((qs.take k).map NodeQ.e = (ps.take k).map NodeQ.e) ∧ Hid (∀ j (hj : j < qs.length), k ≤ j → qs[j] = (⟨0, 0, .slice none 0 0, [], .slice none 0 0, [], .slice none 0 0, [], .slice none 0 0, [], .slice none 0 0, []⟩ : NodeQ)) ∧ nodeK.Own wr (.slice (some ⟨w.heap.size, 0, none⟩) ps.length ps.length) qs ∧
    Hid ((nodeK.fp (.slice (some ⟨w.heap.size, 0, none⟩) ps.length ps.length) qs).Nodup) ∧ Hid (∀ x ∈ nodeK.fp (.slice (some ⟨w.heap.size, 0, none⟩) ps.length ps.length) qs, w.heap.size ≤ x) ∧ Below w.heap.size w wr) (fun i _ => ps.length - (intOf i).toNat)
  case atStart => exact ⟨0, qs0, Nat.zero_le _, rfl, hql, HE, HZ, hO, HN, HG, hb1⟩
  case round =>
    clear HE HZ hO HN HG hb1 hql
    obtain ⟨k, qs, hk, rfl, HQ, HE, HZ, hO, HN, HG, hb⟩ := hrel
    by_cases hlt : k < ps.length
    · have hltq : k < qs.length := by have := HQ.out; omega
      have hzk := HZ.out k hltq (Nat.le_refl _)
      obtain ⟨b, off, rfl, hbs, hc, hrd⟩ := (h.below hb).cell (by decide) k hlt
      have hc' : ∀ j x, (nodeK.cells ps[k])[j]? = some x → wr.cell? ⟨b, off + k * 7 + j, none⟩ = some x := hc
      have c0 := hc' 0 (.int .i64 ps[k].kn) rfl
      have c1 := hc' 1 (.int .i64 ps[k].sf) rfl
      have c2 := hc' 2 (ps[k].vd) rfl
      have c3 := hc' 3 (ps[k].vb) rfl
      have c4 := hc' 4 (ps[k].vt) rfl
      have c5 := hc' 5 (ps[k].vu) rfl
      have c6 := hc' 6 (ps[k].vn) rfl
      have hzl := nm_le NodeQ.n ps k hlt
      have HPE : Hid (∀ p' : NodeQ, p'.e = NodeQ.e ps[k] → ((qs.set k p').take (k + 1)).map NodeQ.e = (ps.take (k + 1)).map NodeQ.e) := by
        intro p' hp'
        have h1 := HE.out
        rw [List.take_succ_eq_append_getElem hlt, List.take_succ_eq_append_getElem (show k < (qs.set k p').length by simpa using hltq)]
        simp only [List.map_append, List.map_cons, List.map_nil, List.getElem_set_self, hp', List.take_set_of_le (Nat.le_refl k), h1]
      clear hc hc'
      generalize ps[k] = p at *
      have hto := toNode_l p wr hrd (by omega)
      rw [Nat.add_zero] at c0
      go_wp2_with fail
      refine hto.mono ?_
      rintro e w2 ⟨p', rfl, hpe, hown', hnd', hlo', hb2⟩
      obtain ⟨x0, x1, x2, y2, x3, y3, x4, y4, x5, y5, x6, y6⟩ := p'
      obtain ⟨o2, o3, o4, o5, o6⟩ : txnK.Own w2 x2 y2 ∧ itemK.Own w2 x3 y3 ∧ txnK.Own w2 x4 y4 ∧ ussK.Own w2 x5 y5 ∧ itemK.Own w2 x6 y6 := id hown'
      obtain ⟨a2, b2, rfl⟩ := o2.shape
      obtain ⟨a3, b3, rfl⟩ := o3.shape
      obtain ⟨a4, b4, rfl⟩ := o4.shape
      obtain ⟨a5, b5, rfl⟩ := o5.shape
      obtain ⟨a6, b6, rfl⟩ := o6.shape
      clear o2 o3 o4 o5 o6
      dsimp only
      generalize hP : (⟨x0, x1, .slice a2 y2.length b2, y2, .slice a3 y3.length b3, y3, .slice a4 y4.length b4, y4, .slice a5 y5.length b5, y5, .slice a6 y6.length b6, y6⟩ : NodeQ) = p' at hpe hown' hnd' hlo'
      have hcp : nodeK.cells p' = [.int .i64 x0, .int .i64 x1, .slice a2 y2.length b2, .slice a3 y3.length b3, .slice a4 y4.length b4, .slice a5 y5.length b5, .slice a6 y6.length b6] := by rw [← hP]; rfl
      have hO2 := hO.below hb2
      obtain ⟨e0, f0⟩ := hO2.cell k hltq 0 _ (by rw [hzk]; rfl)
      obtain ⟨e1, f1⟩ := hO2.cell k hltq 1 _ (by rw [hzk]; rfl)
      obtain ⟨e2, f2⟩ := hO2.cell k hltq 2 _ (by rw [hzk]; rfl)
      obtain ⟨e3, f3⟩ := hO2.cell k hltq 3 _ (by rw [hzk]; rfl)
      obtain ⟨e4, f4⟩ := hO2.cell k hltq 4 _ (by rw [hzk]; rfl)
      obtain ⟨e5, f5⟩ := hO2.cell k hltq 5 _ (by rw [hzk]; rfl)
      obtain ⟨e6, f6⟩ := hO2.cell k hltq 6 _ (by rw [hzk]; rfl)
      have hkk : ∀ j, k * nodeK.size + j = k * 7 + j := fun j => rfl
      rw [hkk] at e0 f0 e1 f1 e2 f2 e3 f3 e4 f4 e5 f5 e6 f6
      rw [Nat.add_zero] at e0 f0
      have hrow0 := hO2.1
      have hQ := HQ.out
      rw [hQ] at hrow0
      have hrow := own_setFrom hrow0 (k * 7) [.int .i64 x0, .int .i64 x1, .slice a2 y2.length b2, .slice a3 y3.length b3, .slice a4 y4.length b4, .slice a5 y5.length b5, .slice a6 y6.length b6]
      rw [← hcp] at hrow
      have hfp : ∀ x ∈ nodeK.fp (.slice (some ⟨w.heap.size, 0, none⟩) ps.length ps.length) qs, x < wr.heap.size := hO.lt
      have hg0 : w.heap.size ∈ nodeK.fp (.slice (some ⟨w.heap.size, 0, none⟩) ps.length ps.length) qs := by simp [Kind.fp, blk, Value.ownBlock]
      have hgl : w.heap.size < wr.heap.size := hfp _ hg0
      have hNq := HN.out
      have hdis : ∀ x ∈ nodeK.foot p', x ∉ nodeK.fp (.slice (some ⟨w.heap.size, 0, none⟩) ps.length ps.length) qs := fun x hx hxx => by have := hlo' x hx; have := hfp x hxx; omega
      have hput : nodeK.Own (((((((w2.setCell ⟨w.heap.size, k * 7, none⟩ (.int .i64 x0)).setCell ⟨w.heap.size, k * 7 + 1, none⟩ (.int .i64 x1)).setCell ⟨w.heap.size, k * 7 + 2, none⟩ (.slice a2 y2.length b2)).setCell ⟨w.heap.size, k * 7 + 3, none⟩ (.slice a3 y3.length b3)).setCell ⟨w.heap.size, k * 7 + 4, none⟩ (.slice a4 y4.length b4)).setCell ⟨w.heap.size, k * 7 + 5, none⟩ (.slice a5 y5.length b5)).setCell ⟨w.heap.size, k * 7 + 6, none⟩ (.slice a6 y6.length b6)) (.slice (some ⟨w.heap.size, 0, none⟩) ps.length ps.length) (qs.set k p') := by
        refine Kind.Own.put hO2 k hltq p' ?_ (((((((Out.setCell _ _ _ _).trans (Out.setCell _ _ _ _)).trans (Out.setCell _ _ _ _)).trans (Out.setCell _ _ _ _)).trans (Out.setCell _ _ _ _)).trans (Out.setCell _ _ _ _)).trans (Out.setCell _ _ _ _)) ?_ hown' ?_
        · rw [hQ]
          rw [hcp] at hrow ⊢
          exact hrow
        · intro q hq x hx hxe
          simp only [Kind.fp, blk, Value.ownBlock, Option.toList, List.cons_append, List.nil_append, List.nodup_cons] at hNq
          exact hNq.1 (List.mem_flatMap.2 ⟨q, hq, hxe ▸ hx⟩)
        · intro x hx hxe
          have := hlo' x hx
          omega
      have R : Hid (nodeK.Own (((((((w2.setCell ⟨w.heap.size, k * 7, none⟩ (.int .i64 x0)).setCell ⟨w.heap.size, k * 7 + 1, none⟩ (.int .i64 x1)).setCell ⟨w.heap.size, k * 7 + 2, none⟩ (.slice a2 y2.length b2)).setCell ⟨w.heap.size, k * 7 + 3, none⟩ (.slice a3 y3.length b3)).setCell ⟨w.heap.size, k * 7 + 4, none⟩ (.slice a4 y4.length b4)).setCell ⟨w.heap.size, k * 7 + 5, none⟩ (.slice a5 y5.length b5)).setCell ⟨w.heap.size, k * 7 + 6, none⟩ (.slice a6 y6.length b6)) (.slice (some ⟨w.heap.size, 0, none⟩) ps.length ps.length) (qs.set k p') ∧ Below w.heap.size w (((((((w2.setCell ⟨w.heap.size, k * 7, none⟩ (.int .i64 x0)).setCell ⟨w.heap.size, k * 7 + 1, none⟩ (.int .i64 x1)).setCell ⟨w.heap.size, k * 7 + 2, none⟩ (.slice a2 y2.length b2)).setCell ⟨w.heap.size, k * 7 + 3, none⟩ (.slice a3 y3.length b3)).setCell ⟨w.heap.size, k * 7 + 4, none⟩ (.slice a4 y4.length b4)).setCell ⟨w.heap.size, k * 7 + 5, none⟩ (.slice a5 y5.length b5)).setCell ⟨w.heap.size, k * 7 + 6, none⟩ (.slice a6 y6.length b6))) := by
        refine ⟨hput, ?_⟩
        have hbb := hb.trans (hb2.mono hb.size)
        exact (((((((hbb.setCell (p := ⟨w.heap.size, k * 7, none⟩) (Nat.le_refl _) _).setCell (p := ⟨w.heap.size, k * 7 + 1, none⟩) (Nat.le_refl _) _).setCell (p := ⟨w.heap.size, k * 7 + 2, none⟩) (Nat.le_refl _) _).setCell (p := ⟨w.heap.size, k * 7 + 3, none⟩) (Nat.le_refl _) _).setCell (p := ⟨w.heap.size, k * 7 + 4, none⟩) (Nat.le_refl _) _).setCell (p := ⟨w.heap.size, k * 7 + 5, none⟩) (Nat.le_refl _) _).setCell (p := ⟨w.heap.size, k * 7 + 6, none⟩) (Nat.le_refl _) _)
      have R1 : Hid ((nodeK.fp (.slice (some ⟨w.heap.size, 0, none⟩) ps.length ps.length) (qs.set k p')).Nodup) := nodup_put hNq k hltq p' (by rw [hzk]; rfl) hnd' hdis
      have R2 : Hid (∀ x ∈ nodeK.fp (.slice (some ⟨w.heap.size, 0, none⟩) ps.length ps.length) (qs.set k p'), w.heap.size ≤ x) := by
        intro x hx
        simp only [Kind.fp, List.mem_append] at hx
        rcases hx with hx | hx
        · exact HG.out x (by simp only [Kind.fp, List.mem_append]; exact Or.inl hx)
        · rcases mem_foot_set hltq hx with hx | hx
          · exact HG.out x (by simp only [Kind.fp, List.mem_append]; exact Or.inr hx)
          · have := hlo' x hx
            omega
      have R3 : Hid (∀ j (hj : j < (qs.set k p').length), k + 1 ≤ j → (qs.set k p')[j] = (⟨0, 0, .slice none 0 0, [], .slice none 0 0, [], .slice none 0 0, [], .slice none 0 0, [], .slice none 0 0, []⟩ : NodeQ)) := fun j hj hkj => by
        rw [List.getElem_set_ne (by omega)]
        exact HZ.out j (by simpa using hj) (by omega)
      have R4 : Hid ((qs.set k p').length = ps.length) := by rw [List.length_set]; exact HQ.out
      have R5 : Hid (((qs.set k p').take (k + 1)).map NodeQ.e = (ps.take (k + 1)).map NodeQ.e) := HPE.out p' hpe
      clear hput hrow hrow0 hQ hO2 hO HN HG HZ HE HQ HPE hNq hdis hown' hnd' hlo' hfp hg0 hb hzk hrd hto hpe hkk hcp hP
      go_wp2
      go_roundw
      case rel => exact ⟨k + 1, qs.set k p', by omega, by go_num, R4.out, R5.out, R3.out, R.out.1, R1.out, R2.out, R.out.2⟩
      case measure => simp [intOf]; omega
    · have hkl : k = ps.length := by omega
      subst hkl
      have hQ := HQ.out
      have hE := HE.out
      rw [List.take_length, List.take_of_length_le (by omega)] at hE
      clear HE HZ
      go_wp2
      go_ret
      exact ⟨_, qs, rfl, hE, hO, HN.out, HG.out, hb⟩

end Go.Proofs.Ytkkdjgiencilbaa

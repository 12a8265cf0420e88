/- What the helpers of the laws do with lists of transactions, in the form of kinds. No condition. -/
import Derived.Test.YticfbapipdhhmaaKL
namespace Go.Proofs.Yticfbapipdhhmaa
open Go.RowKit
open Go.BigFrame
set_option linter.unusedVariables false
set_option linter.unusedSimpArgs false

theorem nm_le {P : Type} (nm : P → Nat) (ps : List P) (k : Nat) (h : k < ps.length) : nm ps[k] ≤ nmL nm ps := by
  have h1 := nmL_succ nm ps k h
  have h2 := nmL_le nm ps (k + 1)
  omega
def TxnQ.n (p : TxnQ) : Nat := p.acts.length
def TxnQ.wf (p : TxnQ) : Prop := p.acts.length ≤ 9223372036854775807

theorem szTxn_k (p : TxnQ) (c : Int) (w : World) (h : txnK.rd w p) (hn : TxnQ.wf p) (h0 : 0 ≤ c) (h1 : c ≤ 1048576) :
    Calls Try.prog 9 #[.agg #[.int .i64 p.i, .int .i64 p.s, .int .i64 p.q, p.va], .int .i64 c] w fun e w' => ∃ r : Int, e = .returned (.int .i64 r) ∧ (¬ r < 0 → (TxnQ.n p : Int) + r = c) ∧ Below w.heap.size w w' := by
  obtain ⟨i, s, q, va, acts⟩ := p
  have h : actK.At w va acts := h
  obtain ⟨a, cap, rfl⟩ := h.shape
  refine (szTxn_any i s q a acts.length cap c w hn h0 (by omega)).mono ?_
  rintro e w' ⟨rfl, hb⟩
  refine ⟨_, rfl, ?_, hb⟩
  dsimp only [TxnQ.n]
  split <;> omega

theorem eqTxn_k (p p' : TxnQ) (w : World) (h : txnK.rd w p) (h' : txnK.rd w p') (he : p.e = p'.e) (hl : TxnQ.n p ≤ 1048576) :
    Calls Try.prog 14 #[.agg #[.int .i64 p.i, .int .i64 p.s, .int .i64 p.q, p.va], .agg #[.int .i64 p'.i, .int .i64 p'.s, .int .i64 p'.q, p'.va]] w fun e w' => e = .returned (.bool true) ∧ Below w.heap.size w w' := by
  obtain ⟨i, s, q, va, acts⟩ := p
  obtain ⟨i', s', q', va', acts'⟩ := p'
  simp only [TxnQ.e, TxnD.mk.injEq] at he
  obtain ⟨rfl, rfl, rfl, rfl⟩ := he
  have h : actK.At w va acts := h
  have h' : actK.At w va' acts := h'
  obtain ⟨a, cap, rfl⟩ := h.shape
  obtain ⟨a', cap', rfl⟩ := h'.shape
  have hl : acts.length ≤ 1048576 := hl
  exact eqTxn_true i s q a a' cap cap' acts w (actK_at h).2 (actK_at h').2 (by omega)

theorem toTxn_k (p : TxnQ) (w : World) (h : txnK.rd w p) (hl : TxnQ.n p ≤ 1048576) :
    Calls Try.prog 11 #[.agg #[.int .i64 p.i, .int .i64 p.s, .int .i64 p.q, p.va]] w fun e w' => ∃ p' : TxnQ, e = .returned (.agg #[.int .i64 p'.i, .int .i64 p'.s, .int .i64 p'.q, p'.va]) ∧ p'.e = p.e ∧ txnK.own w' p' ∧ (txnK.foot p').Nodup ∧ (∀ k ∈ txnK.foot p', w.heap.size ≤ k) ∧ Below w.heap.size w w' := by
  obtain ⟨i, s, q, va, acts⟩ := p
  have h : actK.At w va acts := h
  obtain ⟨a, cap, rfl⟩ := h.shape
  refine (toTxn_any i s q a cap acts w (actK_at h).2 hl).mono ?_
  rintro e w' ⟨g, c, rfl, ho, hb⟩
  obtain ⟨o, hk⟩ := own_zero ho
  refine ⟨⟨i, s, q, _, acts⟩, rfl, rfl, ⟨o, fun _ _ => trivial⟩, ?_, ?_, hb⟩
  · show (actK.fp _ acts).Nodup
    rw [actK_fp]; exact blk_nodup _
  · intro k hk2
    have hk2 : k ∈ actK.fp _ acts := hk2
    rw [actK_fp] at hk2; exact hk k hk2

set_option maxHeartbeats 1000000 in
theorem szTxns_k (v : Value) (ps : List TxnQ) (c : Int) (w : World) (h : txnK.At w v ps) (hn : ps.length ≤ 9223372036854775807) (hn1 : ∀ p ∈ ps, TxnQ.wf p) (h0 : 0 ≤ c) (h1 : c ≤ 1048576) :
    Calls Try.prog 4 #[v, .int .i64 c] w fun e w' => ∃ r : Int, e = .returned (.int .i64 r) ∧ (¬ r < 0 → ((ps.length + nmL TxnQ.n ps : Nat) : Int) + r = c) ∧ Below w.heap.size w w' := by
  obtain ⟨a, cap, rfl⟩ := h.shape
  by_cases hbig : c - ps.length < 0
  · go_enter Try.func4, Try.ntmps4
    go_wp2
    go_ret
    exact ⟨_, rfl, fun h => by omega, Below.refl _ _⟩
  · go_enter Try.func4, Try.ntmps4
    go_wp2
    go_loopw [1, 5] (fun l i wr => ∃ (k : Nat) (x : Int), k ≤ ps.length ∧ i = .int .i64 k ∧ l = .int .i64 x ∧ 0 ≤ x ∧ x ≤ 1048576 ∧ Hid (ps.length + nmL TxnQ.n (ps.take k) + x = c) ∧ Below w.heap.size w wr) (fun _ i _ => ps.length - (intOf i).toNat)
    case atStart => exact ⟨0, c - ps.length, Nat.zero_le _, rfl, by go_num, by omega, by omega, show _ = _ by simp [nmL]; omega, Below.refl _ _⟩
    case round =>
      obtain ⟨k, x, hk, rfl, rfl, hx0, hx1, HS, hb⟩ := hrel
      by_cases hlt : k < ps.length
      · obtain ⟨b, off, rfl, hbs, hc, hrd⟩ := (h.below hb).cell (by decide) k hlt
        have hc' : ∀ j x, (txnK.cells ps[k])[j]? = some x → wr.cell? ⟨b, off + k * 4 + j, none⟩ = some x := hc
        have c0 := hc' 0 (.int .i64 ps[k].i) rfl
        have c1 := hc' 1 (.int .i64 ps[k].s) rfl
        have c2 := hc' 2 (.int .i64 ps[k].q) rfl
        have c3 := hc' 3 (ps[k].va) rfl
        have hs := nmL_succ TxnQ.n ps k hlt
        have HN := hn1 _ (List.getElem_mem hlt)
        have HS' : Hid (∀ y : Int, (TxnQ.n ps[k] : Int) + y = x → ps.length + nmL TxnQ.n (ps.take (k + 1)) + y = c) := by
          intro y hy
          have := HS.out
          omega
        clear HS hs hc hc'
        generalize ps[k] = p at *
        have hsz := szTxn_k p x wr hrd HN hx0 hx1
        generalize TxnQ.n p = m at *
        rw [Nat.add_zero] at c0
        go_wp2_with fail
        refine hsz.mono ?_
        rintro e w2 ⟨r, rfl, hr, hb2⟩
        replace hb := hb.trans (hb2.mono hb.size)
        clear hb2 hsz c0 c1 c2 c3
        by_cases hneg : r < 0
        · go_wp2
          go_ret
          exact ⟨_, rfl, fun h => by omega, hb⟩
        · have hrx := hr (by omega)
          have HR : Hid (ps.length + nmL TxnQ.n (ps.take (k + 1)) + r = c) := HS'.out r hrx
          have hr1 : r ≤ 1048576 := by omega
          clear HS' hr hrx
          go_wp2
          go_roundw
          case rel => exact ⟨k + 1, r, by omega, by go_num, rfl, by omega, hr1, HR.out, hb⟩
          case measure => simp [intOf]; omega
      · have hkl : k = ps.length := by omega
        subst hkl
        rw [List.take_length] at HS
        go_wp2
        go_ret
        exact ⟨_, rfl, fun _ => by have := HS.out; omega, hb⟩

set_option maxHeartbeats 2000000 in
theorem eqTxns_k (v v' : Value) (ps qs : List TxnQ) (w : World) (h : txnK.At w v ps) (h' : txnK.At w v' qs) (he : ps.map TxnQ.e = qs.map TxnQ.e) (hl : (ps.length + nmL TxnQ.n ps) ≤ 1048576) :
    Calls Try.prog 8 #[v, v'] w fun e w' => e = .returned (.bool true) ∧ Below w.heap.size w w' := by
  obtain ⟨a, cap, rfl⟩ := h.shape
  obtain ⟨a', cap', rfl⟩ := h'.shape
  have hlen : qs.length = ps.length := by
    have := congrArg List.length he
    simpa using this.symm
  rw [hlen] at h' ⊢
  have HL : Hid (qs.length = ps.length) := hlen
  clear hlen
  go_enter Try.func8, Try.ntmps8
  go_wp2
  go_loopw [5] (fun i wr => ∃ k : Nat, k ≤ ps.length ∧ i = .int .i64 k ∧ Below w.heap.size w wr) (fun i _ => ps.length - (intOf i).toNat)
  case atStart => exact ⟨0, Nat.zero_le _, rfl, Below.refl _ _⟩
  case round =>
    obtain ⟨k, hk, rfl, hb⟩ := hrel
    by_cases hlt : k < ps.length
    · have hlt' : k < qs.length := by have := HL.out; omega
      obtain ⟨b, off, rfl, hbs, hc, hrd⟩ := (h.below hb).cell (by decide) k hlt
      obtain ⟨b', off', rfl, hbs', hd, hrd'⟩ := (h'.below hb).cell (by decide) k hlt'
      have hc' : ∀ j x, (txnK.cells ps[k])[j]? = some x → wr.cell? ⟨b, off + k * 4 + j, none⟩ = some x := hc
      have hd' : ∀ j x, (txnK.cells qs[k])[j]? = some x → wr.cell? ⟨b', off' + k * 4 + j, none⟩ = some x := hd
      have c0 := hc' 0 (.int .i64 ps[k].i) rfl
      have d0 := hd' 0 (.int .i64 qs[k].i) rfl
      have c1 := hc' 1 (.int .i64 ps[k].s) rfl
      have d1 := hd' 1 (.int .i64 qs[k].s) rfl
      have c2 := hc' 2 (.int .i64 ps[k].q) rfl
      have d2 := hd' 2 (.int .i64 qs[k].q) rfl
      have c3 := hc' 3 (ps[k].va) rfl
      have d3 := hd' 3 (qs[k].va) rfl
      have hee : TxnQ.e ps[k] = TxnQ.e qs[k] := by
        have := congrArg (·[k]?) he
        simpa [hlt, hlt'] using this
      have hzl := nm_le TxnQ.n ps k hlt
      clear hc hc' hd hd'
      generalize ps[k] = p at *
      generalize qs[k] = p' at *
      have hEQ := fun w h1 h2 => eqTxn_k p p' w h1 h2 hee (show TxnQ.n p ≤ 1048576 by omega)
      clear hee hzl
      rw [Nat.add_zero] at c0 d0
      have k0 := lat_cell c0
      have l0 := lat_cell d0
      have k1 := lat_cell c1
      have l1 := lat_cell d1
      have k2 := lat_cell c2
      have l2 := lat_cell d2
      have k3 := lat_cell c3
      have l3 := lat_cell d3
      clear c0 d0 c1 d1 c2 d2 c3 d3
      have hW : Below wr.heap.size wr wr.drew := (Below.refl _ _).drew
      have hne : Nonempty (Lat wr) := ⟨⟨wr, Below.refl _ _⟩⟩
      go_wp2_with fail
      refine text_begin (S := fun w' => ∃ u : Lat wr, w' = u.val) (by kernel_rfl) ?_
      refine sgr [(0, 8)] 2 (by kernel_rfl) ⟨⟨_, hW⟩, rfl⟩ ?_
      simp only [pkE]
      repeat go_big_quiet_step (fail)
      refine wpQuiet_nil ?_
      refine cla 8 (some 25) 14 #[.agg #[.int .i64 p.i, .int .i64 p.s, .int .i64 p.q, p.va], .agg #[.int .i64 p'.i, .int .i64 p'.s, .int .i64 p'.q, p'.va]] 1 (by kernel_rfl) ?_
      refine (hEQ _ (txnK.rd_below hrd hW) (txnK.rd_below hrd' hW)).mono ?_
      rintro e w2 ⟨rfl, hb2⟩
      replace hW := hW.trans (hb2.mono hW.size)
      clear hb2
      refine ⟨_, rfl, ⟨⟨_, hW⟩, rfl⟩, ?_⟩
      simp only [Act.put, pjE]
      refine sgr [(9, 1)] 0 (by kernel_rfl) ⟨⟨_, hW⟩, rfl⟩ ?_
      simp only [pkE]
      repeat go_big_quiet_step (fail)
      refine wpQuiet_nil ?_
      refine text_end (by kernel_rfl) ?_
      replace hb := hb.trans (hW.mono hb.size)
      clear k0 l0 k1 l1 k2 l2 k3 l3 hW hne hrd hrd' hEQ
      go_wp2
      go_roundw
      case rel => exact ⟨k + 1, by omega, by go_num, hb⟩
      case measure => simp [intOf]; omega
    · go_wp2
      go_ret
      exact ⟨rfl, hb⟩

set_option maxHeartbeats 2000000 in
theorem toTxns_k (v : Value) (ps : List TxnQ) (w : World) (h : txnK.At w v ps) (hl : (ps.length + nmL TxnQ.n ps) ≤ 1048576) :
    Calls Try.prog 6 #[v] w fun e w' => ∃ v' qs, e = .returned v' ∧ qs.map TxnQ.e = ps.map TxnQ.e ∧ txnK.Own w' v' qs ∧ (txnK.fp v' qs).Nodup ∧ (∀ k ∈ txnK.fp v' qs, w.heap.size ≤ k) ∧ Below w.heap.size w w' := by
  obtain ⟨a, cap, rfl⟩ := h.shape
  obtain ⟨i0, hi, hz0, hz1, hz2⟩ := info_parts infoTxn
  have hbytes : i0.bytes * ps.length ≤ 281474976710656 := by rw [hz2]; omega
  have hmax : ps.length ≤ maxLen := by unfold maxLen; omega
  go_enter Try.func6, Try.ntmps6
  go_wp2_with (at_make; refine wpList_make_full _ rfl _ _ 25 rfl w.heap.size 34 i0 (.agg #[.int .i64 0, .int .i64 0, .int .i64 0, .slice none 0 0]) 4 Try.underlying25 hi hz0 hz1 _ _ _ _ ps.length rfl rfl rfl rfl hbytes hmax (Nat.le_refl _) ?_)
  intro w1 hown hgrow
  have hb1 : Below w.heap.size w w1 := (Below.refl _ _).grown hgrow (Nat.le_refl _) (by simp)
  have hO : txnK.Own w1 (.slice (some ⟨w.heap.size, 0, none⟩) ps.length ps.length) (List.replicate ps.length (⟨0, 0, 0, .slice none 0 0, []⟩ : TxnQ)) := by
    refine ⟨?_, fun p hp => ?_⟩
    · rw [List.length_replicate, ← made_row (⟨0, 0, 0, .slice none 0 0, []⟩ : TxnQ) _ (by decide)]
      exact own_base hown (Nat.zero_le _)
    · rw [(List.mem_replicate.1 hp).2]
      exact ⟨World.ownsRow_nil _ _ _ _, fun p hp => by simp at hp⟩
  have hF : txnK.fp (.slice (some ⟨w.heap.size, 0, none⟩) ps.length ps.length) (List.replicate ps.length (⟨0, 0, 0, .slice none 0 0, []⟩ : TxnQ)) = [w.heap.size] := fp_new rfl
  have HN : Hid ((txnK.fp (.slice (some ⟨w.heap.size, 0, none⟩) ps.length ps.length) (List.replicate ps.length (⟨0, 0, 0, .slice none 0 0, []⟩ : TxnQ))).Nodup) := by rw [hF]; show List.Nodup _; simp
  have HG : Hid (∀ x ∈ txnK.fp (.slice (some ⟨w.heap.size, 0, none⟩) ps.length ps.length) (List.replicate ps.length (⟨0, 0, 0, .slice none 0 0, []⟩ : TxnQ)), w.heap.size ≤ x) := by rw [hF]; intro x hx; simp at hx; omega
  have HZ : Hid (∀ j (hj : j < (List.replicate ps.length (⟨0, 0, 0, .slice none 0 0, []⟩ : TxnQ)).length), 0 ≤ j → (List.replicate ps.length (⟨0, 0, 0, .slice none 0 0, []⟩ : TxnQ))[j] = (⟨0, 0, 0, .slice none 0 0, []⟩ : TxnQ)) := fun j hj _ => by simp
  have hql : (List.replicate ps.length (⟨0, 0, 0, .slice none 0 0, []⟩ : TxnQ)).length = ps.length := by simp
  clear hown hgrow hF
  generalize List.replicate ps.length (⟨0, 0, 0, .slice none 0 0, []⟩ : TxnQ) = qs0 at *
  have HE : Hid ((qs0.take 0).map TxnQ.e = (ps.take 0).map TxnQ.e) := show _ = _ by simp
  go_wp2
  go_loopw [4] (fun i wr => ∃ (k : Nat) (qs : List TxnQ), k ≤ ps.length ∧ i = .int .i64 k ∧ Hid (qs.length = ps.length) ∧ Hid ((qs.take k).map TxnQ.e = (ps.take k).map TxnQ.e) ∧ Hid (∀ j (hj : j < qs.length), k ≤ j → qs[j] = (⟨0, 0, 0, .slice none 0 0, []⟩ : TxnQ)) ∧ txnK.Own wr (.slice (some ⟨w.heap.size, 0, none⟩) ps.length ps.length) qs ∧
    Hid ((txnK.fp (.slice (some ⟨w.heap.size, 0, none⟩) ps.length ps.length) qs).Nodup) ∧ Hid (∀ x ∈ txnK.fp (.slice (some ⟨w.heap.size, 0, none⟩) ps.length ps.length) qs, w.heap.size ≤ x) ∧ Below w.heap.size w wr) (fun i _ => ps.length - (intOf i).toNat)
  case atStart => exact ⟨0, qs0, Nat.zero_le _, rfl, hql, HE, HZ, hO, HN, HG, hb1⟩
  case round =>
    clear HE HZ hO HN HG hb1 hql
    obtain ⟨k, qs, hk, rfl, HQ, HE, HZ, hO, HN, HG, hb⟩ := hrel
    by_cases hlt : k < ps.length
    · have hltq : k < qs.length := by have := HQ.out; omega
      have hzk := HZ.out k hltq (Nat.le_refl _)
      obtain ⟨b, off, rfl, hbs, hc, hrd⟩ := (h.below hb).cell (by decide) k hlt
      have hc' : ∀ j x, (txnK.cells ps[k])[j]? = some x → wr.cell? ⟨b, off + k * 4 + j, none⟩ = some x := hc
      have c0 := hc' 0 (.int .i64 ps[k].i) rfl
      have c1 := hc' 1 (.int .i64 ps[k].s) rfl
      have c2 := hc' 2 (.int .i64 ps[k].q) rfl
      have c3 := hc' 3 (ps[k].va) rfl
      have hzl := nm_le TxnQ.n ps k hlt
      have HPE : Hid (∀ p' : TxnQ, p'.e = TxnQ.e ps[k] → ((qs.set k p').take (k + 1)).map TxnQ.e = (ps.take (k + 1)).map TxnQ.e) := by
        intro p' hp'
        have h1 := HE.out
        rw [List.take_succ_eq_append_getElem hlt, List.take_succ_eq_append_getElem (show k < (qs.set k p').length by simpa using hltq)]
        simp only [List.map_append, List.map_cons, List.map_nil, List.getElem_set_self, hp', List.take_set_of_le (Nat.le_refl k), h1]
      clear hc hc'
      generalize ps[k] = p at *
      have hto := toTxn_k p wr hrd (by omega)
      rw [Nat.add_zero] at c0
      go_wp2_with fail
      refine hto.mono ?_
      rintro e w2 ⟨p', rfl, hpe, hown', hnd', hlo', hb2⟩
      obtain ⟨x0, x1, x2, x3, y3⟩ := p'
      have o3 : actK.Own w2 x3 y3 := hown'
      obtain ⟨a3, b3, rfl⟩ := o3.shape
      clear o3
      dsimp only
      generalize hP : (⟨x0, x1, x2, .slice a3 y3.length b3, y3⟩ : TxnQ) = p' at hpe hown' hnd' hlo'
      have hcp : txnK.cells p' = [.int .i64 x0, .int .i64 x1, .int .i64 x2, .slice a3 y3.length b3] := by rw [← hP]; rfl
      have hO2 := hO.below hb2
      obtain ⟨e0, f0⟩ := hO2.cell k hltq 0 _ (by rw [hzk]; rfl)
      obtain ⟨e1, f1⟩ := hO2.cell k hltq 1 _ (by rw [hzk]; rfl)
      obtain ⟨e2, f2⟩ := hO2.cell k hltq 2 _ (by rw [hzk]; rfl)
      obtain ⟨e3, f3⟩ := hO2.cell k hltq 3 _ (by rw [hzk]; rfl)
      have hkk : ∀ j, k * txnK.size + j = k * 4 + j := fun j => rfl
      rw [hkk] at e0 f0 e1 f1 e2 f2 e3 f3
      rw [Nat.add_zero] at e0 f0
      have hrow0 := hO2.1
      have hQ := HQ.out
      rw [hQ] at hrow0
      have hrow := own_setFrom hrow0 (k * 4) [.int .i64 x0, .int .i64 x1, .int .i64 x2, .slice a3 y3.length b3]
      rw [← hcp] at hrow
      have hfp : ∀ x ∈ txnK.fp (.slice (some ⟨w.heap.size, 0, none⟩) ps.length ps.length) qs, x < wr.heap.size := hO.lt
      have hg0 : w.heap.size ∈ txnK.fp (.slice (some ⟨w.heap.size, 0, none⟩) ps.length ps.length) qs := by simp [Kind.fp, blk, Value.ownBlock]
      have hgl : w.heap.size < wr.heap.size := hfp _ hg0
      have hNq := HN.out
      have hdis : ∀ x ∈ txnK.foot p', x ∉ txnK.fp (.slice (some ⟨w.heap.size, 0, none⟩) ps.length ps.length) qs := fun x hx hxx => by have := hlo' x hx; have := hfp x hxx; omega
      have hput : txnK.Own ((((w2.setCell ⟨w.heap.size, k * 4, none⟩ (.int .i64 x0)).setCell ⟨w.heap.size, k * 4 + 1, none⟩ (.int .i64 x1)).setCell ⟨w.heap.size, k * 4 + 2, none⟩ (.int .i64 x2)).setCell ⟨w.heap.size, k * 4 + 3, none⟩ (.slice a3 y3.length b3)) (.slice (some ⟨w.heap.size, 0, none⟩) ps.length ps.length) (qs.set k p') := by
        refine Kind.Own.put hO2 k hltq p' ?_ ((((Out.setCell _ _ _ _).trans (Out.setCell _ _ _ _)).trans (Out.setCell _ _ _ _)).trans (Out.setCell _ _ _ _)) ?_ hown' ?_
        · rw [hQ]
          rw [hcp] at hrow ⊢
          exact hrow
        · intro q hq x hx hxe
          simp only [Kind.fp, blk, Value.ownBlock, Option.toList, List.cons_append, List.nil_append, List.nodup_cons] at hNq
          exact hNq.1 (List.mem_flatMap.2 ⟨q, hq, hxe ▸ hx⟩)
        · intro x hx hxe
          have := hlo' x hx
          omega
      have R : Hid (txnK.Own ((((w2.setCell ⟨w.heap.size, k * 4, none⟩ (.int .i64 x0)).setCell ⟨w.heap.size, k * 4 + 1, none⟩ (.int .i64 x1)).setCell ⟨w.heap.size, k * 4 + 2, none⟩ (.int .i64 x2)).setCell ⟨w.heap.size, k * 4 + 3, none⟩ (.slice a3 y3.length b3)) (.slice (some ⟨w.heap.size, 0, none⟩) ps.length ps.length) (qs.set k p') ∧ Below w.heap.size w ((((w2.setCell ⟨w.heap.size, k * 4, none⟩ (.int .i64 x0)).setCell ⟨w.heap.size, k * 4 + 1, none⟩ (.int .i64 x1)).setCell ⟨w.heap.size, k * 4 + 2, none⟩ (.int .i64 x2)).setCell ⟨w.heap.size, k * 4 + 3, none⟩ (.slice a3 y3.length b3))) := by
        refine ⟨hput, ?_⟩
        have hbb := hb.trans (hb2.mono hb.size)
        exact ((((hbb.setCell (p := ⟨w.heap.size, k * 4, none⟩) (Nat.le_refl _) _).setCell (p := ⟨w.heap.size, k * 4 + 1, none⟩) (Nat.le_refl _) _).setCell (p := ⟨w.heap.size, k * 4 + 2, none⟩) (Nat.le_refl _) _).setCell (p := ⟨w.heap.size, k * 4 + 3, none⟩) (Nat.le_refl _) _)
      have R1 : Hid ((txnK.fp (.slice (some ⟨w.heap.size, 0, none⟩) ps.length ps.length) (qs.set k p')).Nodup) := nodup_put hNq k hltq p' (by rw [hzk]; rfl) hnd' hdis
      have R2 : Hid (∀ x ∈ txnK.fp (.slice (some ⟨w.heap.size, 0, none⟩) ps.length ps.length) (qs.set k p'), w.heap.size ≤ x) := by
        intro x hx
        simp only [Kind.fp, List.mem_append] at hx
        rcases hx with hx | hx
        · exact HG.out x (by simp only [Kind.fp, List.mem_append]; exact Or.inl hx)
        · rcases mem_foot_set hltq hx with hx | hx
          · exact HG.out x (by simp only [Kind.fp, List.mem_append]; exact Or.inr hx)
          · have := hlo' x hx
            omega
      have R3 : Hid (∀ j (hj : j < (qs.set k p').length), k + 1 ≤ j → (qs.set k p')[j] = (⟨0, 0, 0, .slice none 0 0, []⟩ : TxnQ)) := fun j hj hkj => by
        rw [List.getElem_set_ne (by omega)]
        exact HZ.out j (by simpa using hj) (by omega)
      have R4 : Hid ((qs.set k p').length = ps.length) := by rw [List.length_set]; exact HQ.out
      have R5 : Hid (((qs.set k p').take (k + 1)).map TxnQ.e = (ps.take (k + 1)).map TxnQ.e) := HPE.out p' hpe
      clear hput hrow hrow0 hQ hO2 hO HN HG HZ HE HQ HPE hNq hdis hown' hnd' hlo' hfp hg0 hb hzk hrd hto hpe hkk hcp hP
      go_wp2
      go_roundw
      case rel => exact ⟨k + 1, qs.set k p', by omega, by go_num, R4.out, R5.out, R3.out, R.out.1, R1.out, R2.out, R.out.2⟩
      case measure => simp [intOf]; omega
    · have hkl : k = ps.length := by omega
      subst hkl
      have hQ := HQ.out
      have hE := HE.out
      rw [List.take_length, List.take_of_length_le (by omega)] at hE
      clear HE HZ
      go_wp2
      go_ret
      exact ⟨_, qs, rfl, hE, hO, HN.out, HG.out, hb⟩

end Go.Proofs.Yticfbapipdhhmaa

/- What the helpers of the laws do with lists of numbers and of acts, in the form of kinds. No condition. -/
import Derived.Test.YtmlkfmjenkcflaaGreatDoorGE
import Derived.Test.YtmlkfmjenkcflaaGreatDoorGB
namespace Go.Proofs.YtmlkfmjenkcflaaGreatDoor
open Go.RowKit
open Go.BigFrame
set_option linter.unusedVariables false
set_option maxRecDepth 100000
set_option linter.unusedSimpArgs false

theorem intK_row (zs : List Int) : intK.row zs = zs.map (Value.int .i64) := by
  induction zs with
  | nil => rfl
  | cons z r ih =>
    simp only [Kind.row, List.flatMap_cons, List.map_cons] at ih ⊢
    rw [ih]
    rfl
theorem actK_row (zs : List ActD) : actK.row zs = actCells zs := rfl
theorem row_of_lies {w : World} {a : Option Addr} {zs : List Int} (h : Lies w a (zs.map (Value.int .i64))) : Row .i64 w a zs := by
  intro i hi
  rcases h with h | ⟨b, off, ha, hlt, hc⟩
  · have := congrArg List.length h
    rw [List.length_map, List.length_nil] at this
    omega
  · exact ⟨b, off, ha, hlt, hc i _ (by simp [List.getD, hi])⟩
theorem lies_of_row {w : World} {a : Option Addr} {zs : List Int} (h : Row .i64 w a zs) : Lies w a (zs.map (Value.int .i64)) := by
  by_cases h0 : zs = []
  · left; simp [h0]
  · obtain ⟨b, off, ha, hlt, _⟩ := h 0 (List.length_pos_iff.2 h0)
    right
    refine ⟨b, off, ha, hlt, fun i x hx => ?_⟩
    have hi : i < zs.length := by
      have := (List.getElem?_eq_some_iff.1 hx).1
      simpa using this
    obtain ⟨b', off', ha', _, hc⟩ := h i hi
    rw [ha] at ha'
    simp only [Option.some.injEq, Addr.mk.injEq, and_true] at ha'
    obtain ⟨rfl, rfl⟩ := ha'
    rw [hc]
    simp [hi] at hx
    rw [← hx]
    simp [List.getD, hi]
theorem intK_at {w : World} {a : Option Addr} {n cap : Nat} {zs : List Int} (h : intK.At w (.slice a n cap) zs) : n = zs.length ∧ Row .i64 w a zs := by
  obtain ⟨a', c, e, hl, _⟩ := h
  simp only [Value.slice.injEq] at e
  obtain ⟨rfl, rfl, _⟩ := e
  rw [intK_row] at hl
  exact ⟨rfl, row_of_lies hl⟩
theorem intK_mk {w : World} {a : Option Addr} {cap : Nat} {zs : List Int} (h : Row .i64 w a zs) : intK.At w (.slice a zs.length cap) zs := ⟨a, cap, rfl, by rw [intK_row]; exact lies_of_row h, fun _ _ => trivial⟩
theorem actK_at {w : World} {a : Option Addr} {n cap : Nat} {zs : List ActD} (h : actK.At w (.slice a n cap) zs) : n = zs.length ∧ ActRow w a zs := by
  obtain ⟨a', c, e, hl, _⟩ := h
  simp only [Value.slice.injEq] at e
  obtain ⟨rfl, rfl, _⟩ := e
  exact ⟨rfl, hl⟩
theorem actK_mk {w : World} {a : Option Addr} {cap : Nat} {zs : List ActD} (h : ActRow w a zs) : actK.At w (.slice a zs.length cap) zs := ⟨a, cap, rfl, h, fun _ _ => trivial⟩
theorem intK_fp (v : Value) (zs : List Int) : intK.fp v zs = blk v := by
  have : zs.flatMap intK.foot = [] := by rw [List.flatMap_eq_nil_iff]; intro _ _; rfl
  simp [Kind.fp, this]
theorem actK_fp (v : Value) (zs : List ActD) : actK.fp v zs = blk v := by
  have : zs.flatMap actK.foot = [] := by rw [List.flatMap_eq_nil_iff]; intro _ _; rfl
  simp [Kind.fp, this]
theorem blk_nodup (v : Value) : (blk v).Nodup := by unfold blk; cases v.ownBlock <;> simp
theorem own_zero {w : World} {base e s n : Nat} {v : Value} {xs : List Value} (h : w.ownsRow base e s v n xs) : w.ownsRow 0 e s v n xs ∧ ∀ k ∈ blk v, base ≤ k := ⟨own_base h (Nat.zero_le _), fun k hk => (h.lt k (by simpa [blk] using hk)).1⟩

theorem szActs_k (v : Value) (zs : List ActD) (c : Int) (w : World) (h : actK.At w v zs) (hn : zs.length ≤ 9223372036854775807) (h0 : 0 ≤ c) (h1 : c ≤ 1048576) :
    Calls Tryz.prog 37 #[v, .int .i64 c] w fun e w' => ∃ r : Int, e = .returned (.int .i64 r) ∧ (¬ r < 0 → (zs.length : Int) + r = c) ∧ Below w.heap.size w w' := by
  obtain ⟨a, cap, rfl⟩ := h.shape
  refine (szActS_any a zs.length cap c w hn h0 (by omega)).mono ?_
  rintro e w' ⟨rfl, rfl⟩
  refine ⟨_, rfl, ?_, Below.refl _ _⟩
  split <;> omega

theorem toActs_k (v : Value) (zs : List ActD) (w : World) (h : actK.At w v zs) (hl : zs.length ≤ 1048576) :
    Calls Tryz.prog 43 #[v] w fun e w' => ∃ v', e = .returned v' ∧ actK.Own w' v' zs ∧ (actK.fp v' zs).Nodup ∧ (∀ k ∈ actK.fp v' zs, w.heap.size ≤ k) ∧ Below w.heap.size w w' := by
  obtain ⟨a, cap, rfl⟩ := h.shape
  refine (toActS_any a cap zs w (actK_at h).2 hl).mono ?_
  rintro e w' ⟨g, c, rfl, ho, hb⟩
  obtain ⟨o, hk⟩ := own_zero ho
  refine ⟨_, rfl, ⟨o, fun _ _ => trivial⟩, ?_, ?_, hb⟩
  · rw [actK_fp]; exact blk_nodup _
  · rw [actK_fp]; exact hk

theorem eqActs_k (v v' : Value) (zs : List ActD) (w : World) (h : actK.At w v zs) (h' : actK.At w v' zs) (hl : zs.length ≤ 1048576) :
    Calls Tryz.prog 49 #[v, v'] w fun e w' => e = .returned (.bool true) ∧ Below w.heap.size w w' := by
  obtain ⟨a, cap, rfl⟩ := h.shape
  obtain ⟨a', cap', rfl⟩ := h'.shape
  exact eqActS_true a a' cap cap' zs w (actK_at h).2 (actK_at h').2 (by omega)

def mkActs (c : Int) (zs : List ActD) : List ActD := actMarks c zs.length
theorem mkActs_fp (c : Int) (v : Value) (zs : List ActD) : actK.fp v (mkActs c zs) = actK.fp v zs := by rw [actK_fp, actK_fp]
theorem toInts_k (v : Value) (zs : List Int) (w : World) (h : intK.At w v zs) (hl : zs.length ≤ 1048576) :
    Calls Tryz.prog 16 #[v] w fun e w' => ∃ v', e = .returned v' ∧ intK.Own w' v' zs ∧ (intK.fp v' zs).Nodup ∧ (∀ k ∈ intK.fp v' zs, w.heap.size ≤ k) ∧ Below w.heap.size w w' := by
  obtain ⟨a, cap, rfl⟩ := h.shape
  refine (toI_any a cap zs w (intK_at h).2 hl).mono ?_
  rintro e w' ⟨g, c, rfl, ho, hb⟩
  obtain ⟨o, hk⟩ := own_zero ho
  refine ⟨_, rfl, ⟨by rw [intK_row]; exact o, fun _ _ => trivial⟩, ?_, ?_, hb⟩
  · rw [intK_fp]; exact blk_nodup _
  · rw [intK_fp]; exact hk

theorem eqInts_k (v v' : Value) (zs : List Int) (w : World) (h : intK.At w v zs) (h' : intK.At w v' zs) (hl : zs.length ≤ 1048576) :
    Calls Tryz.prog 23 #[v, v'] w fun e w' => e = .returned (.bool true) ∧ Below w.heap.size w w' := by
  obtain ⟨a, cap, rfl⟩ := h.shape
  obtain ⟨a', cap', rfl⟩ := h'.shape
  refine (eqI_true a a' cap cap' zs w (intK_at h).2 (intK_at h').2 (by omega)).mono ?_
  rintro e w' ⟨rfl, n, hw⟩
  exact ⟨rfl, by subst hw; exact below_drewN (Below.refl _ _) n⟩

def mkInts (c : Int) (zs : List Int) : List Int := marks .i64 c zs.length
theorem mkInts_fp (c : Int) (v : Value) (zs : List Int) : intK.fp v (mkInts c zs) = intK.fp v zs := by rw [intK_fp, intK_fp]
end Go.Proofs.YtmlkfmjenkcflaaGreatDoor

/- What the helpers of the laws do with lists of transactions, in the form of kinds. No condition. -/
namespace Go.Proofs.YtmlkfmjenkcflaaGreatDoor
open Go.RowKit
open Go.BigFrame
set_option linter.unusedVariables false
set_option maxRecDepth 100000
set_option linter.unusedSimpArgs false

theorem nm_le {P : Type} (nm : P → Nat) (ps : List P) (k : Nat) (h : k < ps.length) : nm ps[k] ≤ nmL nm ps := by
  have h1 := nmL_succ nm ps k h
  have h2 := nmL_le nm ps (k + 1)
  omega
def TxnQ.n (p : TxnQ) : Nat := p.acts.length
def TxnQ.wf (p : TxnQ) : Prop := p.acts.length ≤ 9223372036854775807

theorem szTxn_k (p : TxnQ) (c : Int) (w : World) (h : txnK.rd w p) (hn : TxnQ.wf p) (h0 : 0 ≤ c) (h1 : c ≤ 1048576) :
    Calls Tryz.prog 24 #[.agg #[.int .i64 p.i, .int .i64 p.s, .int .i64 p.q, p.va], .int .i64 c] w fun e w' => ∃ r : Int, e = .returned (.int .i64 r) ∧ (¬ r < 0 → (TxnQ.n p : Int) + r = c) ∧ Below w.heap.size w w' := by
  obtain ⟨i, s, q, va, acts⟩ := p
  have h : actK.At w va acts := h
  obtain ⟨a, cap, rfl⟩ := h.shape
  refine (szTxn_any i s q a acts.length cap c w hn h0 (by omega)).mono ?_
  rintro e w' ⟨rfl, hb⟩
  refine ⟨_, rfl, ?_, hb⟩
  dsimp only [TxnQ.n]
  split <;> omega

theorem eqTxn_k (p p' : TxnQ) (w : World) (h : txnK.rd w p) (h' : txnK.rd w p') (he : p.e = p'.e) (hl : TxnQ.n p ≤ 1048576) :
    Calls Tryz.prog 35 #[.agg #[.int .i64 p.i, .int .i64 p.s, .int .i64 p.q, p.va], .agg #[.int .i64 p'.i, .int .i64 p'.s, .int .i64 p'.q, p'.va]] w fun e w' => e = .returned (.bool true) ∧ Below w.heap.size w w' := by
  obtain ⟨i, s, q, va, acts⟩ := p
  obtain ⟨i', s', q', va', acts'⟩ := p'
  simp only [TxnQ.e, TxnD.mk.injEq] at he
  obtain ⟨rfl, rfl, rfl, rfl⟩ := he
  have h : actK.At w va acts := h
  have h' : actK.At w va' acts := h'
  obtain ⟨a, cap, rfl⟩ := h.shape
  obtain ⟨a', cap', rfl⟩ := h'.shape
  have hl : acts.length ≤ 1048576 := hl
  exact eqTxn_true i s q a a' cap cap' acts w (actK_at h).2 (actK_at h').2 (by omega)

theorem toTxn_k (p : TxnQ) (w : World) (h : txnK.rd w p) (hl : TxnQ.n p ≤ 1048576) :
    Calls Tryz.prog 30 #[.agg #[.int .i64 p.i, .int .i64 p.s, .int .i64 p.q, p.va]] w fun e w' => ∃ p' : TxnQ, e = .returned (.agg #[.int .i64 p'.i, .int .i64 p'.s, .int .i64 p'.q, p'.va]) ∧ p'.e = p.e ∧ txnK.own w' p' ∧ (txnK.foot p').Nodup ∧ (∀ k ∈ txnK.foot p', w.heap.size ≤ k) ∧ Below w.heap.size w w' := by
  obtain ⟨i, s, q, va, acts⟩ := p
  have h : actK.At w va acts := h
  obtain ⟨a, cap, rfl⟩ := h.shape
  refine (toTxn_any i s q a cap acts w (actK_at h).2 hl).mono ?_
  rintro e w' ⟨g, c, rfl, ho, hb⟩
  obtain ⟨o, hk⟩ := own_zero ho
  refine ⟨⟨i, s, q, _, acts⟩, rfl, rfl, ⟨o, fun _ _ => trivial⟩, ?_, ?_, hb⟩
  · show (actK.fp _ acts).Nodup
    rw [actK_fp]; exact blk_nodup _
  · intro k hk2
    have hk2 : k ∈ actK.fp _ acts := hk2
    rw [actK_fp] at hk2; exact hk k hk2

set_option maxHeartbeats 1000000 in
theorem szTxns_k (v : Value) (ps : List TxnQ) (c : Int) (w : World) (h : txnK.At w v ps) (hn : ps.length ≤ 9223372036854775807) (hn1 : ∀ p ∈ ps, TxnQ.wf p) (h0 : 0 ≤ c) (h1 : c ≤ 1048576) :
    Calls Tryz.prog 9 #[v, .int .i64 c] w fun e w' => ∃ r : Int, e = .returned (.int .i64 r) ∧ (¬ r < 0 → ((ps.length + nmL TxnQ.n ps : Nat) : Int) + r = c) ∧ Below w.heap.size w w' := by
  obtain ⟨a, cap, rfl⟩ := h.shape
  by_cases hbig : c - ps.length < 0
  · go_enter Tryz.func9, Tryz.ntmps9
    go_wp2
    go_ret
    exact ⟨_, rfl, fun h => by omega, Below.refl _ _⟩
  · go_enter Tryz.func9, Tryz.ntmps9
    go_wp2
    go_loopw [1, 5] (fun l i wr => ∃ (k : Nat) (x : Int), k ≤ ps.length ∧ i = .int .i64 k ∧ l = .int .i64 x ∧ 0 ≤ x ∧ x ≤ 1048576 ∧ Hid (ps.length + nmL TxnQ.n (ps.take k) + x = c) ∧ Below w.heap.size w wr) (fun _ i _ => ps.length - (intOf i).toNat)
    case atStart => exact ⟨0, c - ps.length, Nat.zero_le _, rfl, by go_num, by omega, by omega, show _ = _ by simp [nmL]; omega, Below.refl _ _⟩
    case round =>
      obtain ⟨k, x, hk, rfl, rfl, hx0, hx1, HS, hb⟩ := hrel
      by_cases hlt : k < ps.length
      · obtain ⟨b, off, rfl, hbs, hc, hrd⟩ := (h.below hb).cell (by decide) k hlt
        have hc' : ∀ j x, (txnK.cells ps[k])[j]? = some x → wr.cell? ⟨b, off + k * 4 + j, none⟩ = some x := hc
        have c0 := hc' 0 (.int .i64 ps[k].i) rfl
        have c1 := hc' 1 (.int .i64 ps[k].s) rfl
        have c2 := hc' 2 (.int .i64 ps[k].q) rfl
        have c3 := hc' 3 (ps[k].va) rfl
        have hs := nmL_succ TxnQ.n ps k hlt
        have HN := hn1 _ (List.getElem_mem hlt)
        have HS' : Hid (∀ y : Int, (TxnQ.n ps[k] : Int) + y = x → ps.length + nmL TxnQ.n (ps.take (k + 1)) + y = c) := by
          intro y hy
          have := HS.out
          omega
        clear HS hs hc hc'
        generalize ps[k] = p at *
        have hsz := szTxn_k p x wr hrd HN hx0 hx1
        generalize TxnQ.n p = m at *
        rw [Nat.add_zero] at c0
        go_wp2_with fail
        refine hsz.mono ?_
        rintro e w2 ⟨r, rfl, hr, hb2⟩
        replace hb := hb.trans (hb2.mono hb.size)
        clear hb2 hsz c0 c1 c2 c3
        by_cases hneg : r < 0
        · go_wp2
          go_ret
          exact ⟨_, rfl, fun h => by omega, hb⟩
        · have hrx := hr (by omega)
          have HR : Hid (ps.length + nmL TxnQ.n (ps.take (k + 1)) + r = c) := HS'.out r hrx
          have hr1 : r ≤ 1048576 := by omega
          clear HS' hr hrx
          go_wp2
          go_roundw
          case rel => exact ⟨k + 1, r, by omega, by go_num, rfl, by omega, hr1, HR.out, hb⟩
          case measure => simp [intOf]; omega
      · have hkl : k = ps.length := by omega
        subst hkl
        rw [List.take_length] at HS
        go_wp2
        go_ret
        exact ⟨_, rfl, fun _ => by have := HS.out; omega, hb⟩

set_option maxHeartbeats 2000000 in
theorem eqTxns_k (v v' : Value) (ps qs : List TxnQ) (w : World) (h : txnK.At w v ps) (h' : txnK.At w v' qs) (he : ps.map TxnQ.e = qs.map TxnQ.e) (hl : (ps.length + nmL TxnQ.n ps) ≤ 1048576) :
    Calls Tryz.prog 21 #[v, v'] w fun e w' => e = .returned (.bool true) ∧ Below w.heap.size w w' := by
  obtain ⟨a, cap, rfl⟩ := h.shape
  obtain ⟨a', cap', rfl⟩ := h'.shape
  have hlen : qs.length = ps.length := by
    have := congrArg List.length he
    simpa using this.symm
  rw [hlen] at h' ⊢
  have HL : Hid (qs.length = ps.length) := hlen
  clear hlen
  go_enter Tryz.func21, Tryz.ntmps21
  go_wp2
  go_loopw [5] (fun i wr => ∃ k : Nat, k ≤ ps.length ∧ i = .int .i64 k ∧ Below w.heap.size w wr) (fun i _ => ps.length - (intOf i).toNat)
  case atStart => exact ⟨0, Nat.zero_le _, rfl, Below.refl _ _⟩
  case round =>
    obtain ⟨k, hk, rfl, hb⟩ := hrel
    by_cases hlt : k < ps.length
    · have hlt' : k < qs.length := by have := HL.out; omega
      obtain ⟨b, off, rfl, hbs, hc, hrd⟩ := (h.below hb).cell (by decide) k hlt
      obtain ⟨b', off', rfl, hbs', hd, hrd'⟩ := (h'.below hb).cell (by decide) k hlt'
      have hc' : ∀ j x, (txnK.cells ps[k])[j]? = some x → wr.cell? ⟨b, off + k * 4 + j, none⟩ = some x := hc
      have hd' : ∀ j x, (txnK.cells qs[k])[j]? = some x → wr.cell? ⟨b', off' + k * 4 + j, none⟩ = some x := hd
      have c0 := hc' 0 (.int .i64 ps[k].i) rfl
      have d0 := hd' 0 (.int .i64 qs[k].i) rfl
      have c1 := hc' 1 (.int .i64 ps[k].s) rfl
      have d1 := hd' 1 (.int .i64 qs[k].s) rfl
      have c2 := hc' 2 (.int .i64 ps[k].q) rfl
      have d2 := hd' 2 (.int .i64 qs[k].q) rfl
      have c3 := hc' 3 (ps[k].va) rfl
      have d3 := hd' 3 (qs[k].va) rfl
      have hee : TxnQ.e ps[k] = TxnQ.e qs[k] := by
        have := congrArg (·[k]?) he
        simpa [hlt, hlt'] using this
      have hzl := nm_le TxnQ.n ps k hlt
      clear hc hc' hd hd'
      generalize ps[k] = p at *
      generalize qs[k] = p' at *
      have hEQ := fun w h1 h2 => eqTxn_k p p' w h1 h2 hee (show TxnQ.n p ≤ 1048576 by omega)
      clear hee hzl
      rw [Nat.add_zero] at c0 d0
      have k0 := lat_cell c0
      have l0 := lat_cell d0
      have k1 := lat_cell c1
      have l1 := lat_cell d1
      have k2 := lat_cell c2
      have l2 := lat_cell d2
      have k3 := lat_cell c3
      have l3 := lat_cell d3
      clear c0 d0 c1 d1 c2 d2 c3 d3
      have hW : Below wr.heap.size wr wr.drew := (Below.refl _ _).drew
      have hne : Nonempty (Lat wr) := ⟨⟨wr, Below.refl _ _⟩⟩
      go_wp2_with fail
      refine text_begin (S := fun w' => ∃ u : Lat wr, w' = u.val) (by kernel_rfl) ?_
      refine sgr [(0, 8)] 2 (by kernel_rfl) ⟨⟨_, hW⟩, rfl⟩ ?_
      simp only [pkE]
      repeat go_big_quiet_step (fail)
      refine wpQuiet_nil ?_
      refine cla 8 (some 25) 35 #[.agg #[.int .i64 p.i, .int .i64 p.s, .int .i64 p.q, p.va], .agg #[.int .i64 p'.i, .int .i64 p'.s, .int .i64 p'.q, p'.va]] 1 (by kernel_rfl) ?_
      refine (hEQ _ (txnK.rd_below hrd hW) (txnK.rd_below hrd' hW)).mono ?_
      rintro e w2 ⟨rfl, hb2⟩
      replace hW := hW.trans (hb2.mono hW.size)
      clear hb2
      refine ⟨_, rfl, ⟨⟨_, hW⟩, rfl⟩, ?_⟩
      simp only [Act.put, pjE]
      refine sgr [(9, 1)] 0 (by kernel_rfl) ⟨⟨_, hW⟩, rfl⟩ ?_
      simp only [pkE]
      repeat go_big_quiet_step (fail)
      refine wpQuiet_nil ?_
      refine text_end (by kernel_rfl) ?_
      replace hb := hb.trans (hW.mono hb.size)
      clear k0 l0 k1 l1 k2 l2 k3 l3 hW hne hrd hrd' hEQ
      go_wp2
      go_roundw
      case rel => exact ⟨k + 1, by omega, by go_num, hb⟩
      case measure => simp [intOf]; omega
    · go_wp2
      go_ret
      exact ⟨rfl, hb⟩

set_option maxHeartbeats 2000000 in
theorem toTxns_k (v : Value) (ps : List TxnQ) (w : World) (h : txnK.At w v ps) (hl : (ps.length + nmL TxnQ.n ps) ≤ 1048576) :
    Calls Tryz.prog 14 #[v] w fun e w' => ∃ v' qs, e = .returned v' ∧ qs.map TxnQ.e = ps.map TxnQ.e ∧ txnK.Own w' v' qs ∧ (txnK.fp v' qs).Nodup ∧ (∀ k ∈ txnK.fp v' qs, w.heap.size ≤ k) ∧ Below w.heap.size w w' := by
  obtain ⟨a, cap, rfl⟩ := h.shape
  obtain ⟨i0, hi, hz0, hz1, hz2⟩ := info_parts infoTxn
  have hbytes : i0.bytes * ps.length ≤ 281474976710656 := by rw [hz2]; omega
  have hmax : ps.length ≤ maxLen := by unfold maxLen; omega
  go_enter Tryz.func14, Tryz.ntmps14
  go_wp2_with (at_make; refine wpList_make_full _ rfl _ _ 29 rfl w.heap.size 65 i0 (.agg #[.int .i64 0, .int .i64 0, .int .i64 0, .slice none 0 0]) 4 Tryz.underlying29 hi hz0 hz1 _ _ _ _ ps.length rfl rfl rfl rfl hbytes hmax (Nat.le_refl _) ?_)
  intro w1 hown hgrow
  have hb1 : Below w.heap.size w w1 := (Below.refl _ _).grown hgrow (Nat.le_refl _) (by simp)
  have hO : txnK.Own w1 (.slice (some ⟨w.heap.size, 0, none⟩) ps.length ps.length) (List.replicate ps.length (⟨0, 0, 0, .slice none 0 0, []⟩ : TxnQ)) := by
    refine ⟨?_, fun p hp => ?_⟩
    · rw [List.length_replicate, ← made_row (⟨0, 0, 0, .slice none 0 0, []⟩ : TxnQ) _ (by decide)]
      exact own_base hown (Nat.zero_le _)
    · rw [(List.mem_replicate.1 hp).2]
      exact ⟨World.ownsRow_nil _ _ _ _, fun p hp => by simp at hp⟩
  have hF : txnK.fp (.slice (some ⟨w.heap.size, 0, none⟩) ps.length ps.length) (List.replicate ps.length (⟨0, 0, 0, .slice none 0 0, []⟩ : TxnQ)) = [w.heap.size] := fp_new rfl
  have HN : Hid ((txnK.fp (.slice (some ⟨w.heap.size, 0, none⟩) ps.length ps.length) (List.replicate ps.length (⟨0, 0, 0, .slice none 0 0, []⟩ : TxnQ))).Nodup) := by rw [hF]; show List.Nodup _; simp
  have HG : Hid (∀ x ∈ txnK.fp (.slice (some ⟨w.heap.size, 0, none⟩) ps.length ps.length) (List.replicate ps.length (⟨0, 0, 0, .slice none 0 0, []⟩ : TxnQ)), w.heap.size ≤ x) := by rw [hF]; intro x hx; simp at hx; omega
  have HZ : Hid (∀ j (hj : j < (List.replicate ps.length (⟨0, 0, 0, .slice none 0 0, []⟩ : TxnQ)).length), 0 ≤ j → (List.replicate ps.length (⟨0, 0, 0, .slice none 0 0, []⟩ : TxnQ))[j] = (⟨0, 0, 0, .slice none 0 0, []⟩ : TxnQ)) := fun j hj _ => by simp
  have hql : (List.replicate ps.length (⟨0, 0, 0, .slice none 0 0, []⟩ : TxnQ)).length = ps.length := by simp
  clear hown hgrow hF
  generalize List.replicate ps.length (⟨0, 0, 0, .slice none 0 0, []⟩ : TxnQ) = qs0 at *
  have HE : Hid ((qs0.take 0).map TxnQ.e = (ps.take 0).map TxnQ.e) := show _ = _ by simp
  go_wp2
  go_loopw [4] (fun i wr => ∃ (k : Nat) (qs : List TxnQ), k ≤ ps.length ∧ i = .int .i64 k ∧ Hid (qs.length = ps.length) ∧ Hid ((qs.take k).map TxnQ.e = (ps.take k).map TxnQ.e) ∧ Hid (∀ j (hj : j < qs.length), k ≤ j → qs[j] = (⟨0, 0, 0, .slice none 0 0, []⟩ : TxnQ)) ∧ txnK.Own wr (.slice (some ⟨w.heap.size, 0, none⟩) ps.length ps.length) qs ∧
    Hid ((txnK.fp (.slice (some ⟨w.heap.size, 0, none⟩) ps.length ps.length) qs).Nodup) ∧ Hid (∀ x ∈ txnK.fp (.slice (some ⟨w.heap.size, 0, none⟩) ps.length ps.length) qs, w.heap.size ≤ x) ∧ Below w.heap.size w wr) (fun i _ => ps.length - (intOf i).toNat)
  case atStart => exact ⟨0, qs0, Nat.zero_le _, rfl, hql, HE, HZ, hO, HN, HG, hb1⟩
  case round =>
    clear HE HZ hO HN HG hb1 hql
    obtain ⟨k, qs, hk, rfl, HQ, HE, HZ, hO, HN, HG, hb⟩ := hrel
    by_cases hlt : k < ps.length
    · have hltq : k < qs.length := by have := HQ.out; omega
      have hzk := HZ.out k hltq (Nat.le_refl _)
      obtain ⟨b, off, rfl, hbs, hc, hrd⟩ := (h.below hb).cell (by decide) k hlt
      have hc' : ∀ j x, (txnK.cells ps[k])[j]? = some x → wr.cell? ⟨b, off + k * 4 + j, none⟩ = some x := hc
      have c0 := hc' 0 (.int .i64 ps[k].i) rfl
      have c1 := hc' 1 (.int .i64 ps[k].s) rfl
      have c2 := hc' 2 (.int .i64 ps[k].q) rfl
      have c3 := hc' 3 (ps[k].va) rfl
      have hzl := nm_le TxnQ.n ps k hlt
      have HPE : Hid (∀ p' : TxnQ, p'.e = TxnQ.e ps[k] → ((qs.set k p').take (k + 1)).map TxnQ.e = (ps.take (k + 1)).map TxnQ.e) := by
        intro p' hp'
        have h1 := HE.out
        rw [List.take_succ_eq_append_getElem hlt, List.take_succ_eq_append_getElem (show k < (qs.set k p').length by simpa using hltq)]
        simp only [List.map_append, List.map_cons, List.map_nil, List.getElem_set_self, hp', List.take_set_of_le (Nat.le_refl k), h1]
      clear hc hc'
      generalize ps[k] = p at *
      have hto := toTxn_k p wr hrd (by omega)
      rw [Nat.add_zero] at c0
      go_wp2_with fail
      refine hto.mono ?_
      rintro e w2 ⟨p', rfl, hpe, hown', hnd', hlo', hb2⟩
      obtain ⟨x0, x1, x2, x3, y3⟩ := p'
      have o3 : actK.Own w2 x3 y3 := hown'
      obtain ⟨a3, b3, rfl⟩ := o3.shape
      clear o3
      dsimp only
      generalize hP : (⟨x0, x1, x2, .slice a3 y3.length b3, y3⟩ : TxnQ) = p' at hpe hown' hnd' hlo'
      have hcp : txnK.cells p' = [.int .i64 x0, .int .i64 x1, .int .i64 x2, .slice a3 y3.length b3] := by rw [← hP]; rfl
      have hO2 := hO.below hb2
      obtain ⟨e0, f0⟩ := hO2.cell k hltq 0 _ (by rw [hzk]; rfl)
      obtain ⟨e1, f1⟩ := hO2.cell k hltq 1 _ (by rw [hzk]; rfl)
      obtain ⟨e2, f2⟩ := hO2.cell k hltq 2 _ (by rw [hzk]; rfl)
      obtain ⟨e3, f3⟩ := hO2.cell k hltq 3 _ (by rw [hzk]; rfl)
      have hkk : ∀ j, k * txnK.size + j = k * 4 + j := fun j => rfl
      rw [hkk] at e0 f0 e1 f1 e2 f2 e3 f3
      rw [Nat.add_zero] at e0 f0
      have hrow0 := hO2.1
      have hQ := HQ.out
      rw [hQ] at hrow0
      have hrow := own_setFrom hrow0 (k * 4) [.int .i64 x0, .int .i64 x1, .int .i64 x2, .slice a3 y3.length b3]
      rw [← hcp] at hrow
      have hfp : ∀ x ∈ txnK.fp (.slice (some ⟨w.heap.size, 0, none⟩) ps.length ps.length) qs, x < wr.heap.size := hO.lt
      have hg0 : w.heap.size ∈ txnK.fp (.slice (some ⟨w.heap.size, 0, none⟩) ps.length ps.length) qs := by simp [Kind.fp, blk, Value.ownBlock]
      have hgl : w.heap.size < wr.heap.size := hfp _ hg0
      have hNq := HN.out
      have hdis : ∀ x ∈ txnK.foot p', x ∉ txnK.fp (.slice (some ⟨w.heap.size, 0, none⟩) ps.length ps.length) qs := fun x hx hxx => by have := hlo' x hx; have := hfp x hxx; omega
      have hput : txnK.Own ((((w2.setCell ⟨w.heap.size, k * 4, none⟩ (.int .i64 x0)).setCell ⟨w.heap.size, k * 4 + 1, none⟩ (.int .i64 x1)).setCell ⟨w.heap.size, k * 4 + 2, none⟩ (.int .i64 x2)).setCell ⟨w.heap.size, k * 4 + 3, none⟩ (.slice a3 y3.length b3)) (.slice (some ⟨w.heap.size, 0, none⟩) ps.length ps.length) (qs.set k p') := by
        refine Kind.Own.put hO2 k hltq p' ?_ ((((Out.setCell _ _ _ _).trans (Out.setCell _ _ _ _)).trans (Out.setCell _ _ _ _)).trans (Out.setCell _ _ _ _)) ?_ hown' ?_
        · rw [hQ]
          rw [hcp] at hrow ⊢
          exact hrow
        · intro q hq x hx hxe
          simp only [Kind.fp, blk, Value.ownBlock, Option.toList, List.cons_append, List.nil_append, List.nodup_cons] at hNq
          exact hNq.1 (List.mem_flatMap.2 ⟨q, hq, hxe ▸ hx⟩)
        · intro x hx hxe
          have := hlo' x hx
          omega
      have R : Hid (txnK.Own ((((w2.setCell ⟨w.heap.size, k * 4, none⟩ (.int .i64 x0)).setCell ⟨w.heap.size, k * 4 + 1, none⟩ (.int .i64 x1)).setCell ⟨w.heap.size, k * 4 + 2, none⟩ (.int .i64 x2)).setCell ⟨w.heap.size, k * 4 + 3, none⟩ (.slice a3 y3.length b3)) (.slice (some ⟨w.heap.size, 0, none⟩) ps.length ps.length) (qs.set k p') ∧ Below w.heap.size w ((((w2.setCell ⟨w.heap.size, k * 4, none⟩ (.int .i64 x0)).setCell ⟨w.heap.size, k * 4 + 1, none⟩ (.int .i64 x1)).setCell ⟨w.heap.size, k * 4 + 2, none⟩ (.int .i64 x2)).setCell ⟨w.heap.size, k * 4 + 3, none⟩ (.slice a3 y3.length b3))) := by
        refine ⟨hput, ?_⟩
        have hbb := hb.trans (hb2.mono hb.size)
        exact ((((hbb.setCell (p := ⟨w.heap.size, k * 4, none⟩) (Nat.le_refl _) _).setCell (p := ⟨w.heap.size, k * 4 + 1, none⟩) (Nat.le_refl _) _).setCell (p := ⟨w.heap.size, k * 4 + 2, none⟩) (Nat.le_refl _) _).setCell (p := ⟨w.heap.size, k * 4 + 3, none⟩) (Nat.le_refl _) _)
      have R1 : Hid ((txnK.fp (.slice (some ⟨w.heap.size, 0, none⟩) ps.length ps.length) (qs.set k p')).Nodup) := nodup_put hNq k hltq p' (by rw [hzk]; rfl) hnd' hdis
      have R2 : Hid (∀ x ∈ txnK.fp (.slice (some ⟨w.heap.size, 0, none⟩) ps.length ps.length) (qs.set k p'), w.heap.size ≤ x) := by
        intro x hx
        simp only [Kind.fp, List.mem_append] at hx
        rcases hx with hx | hx
        · exact HG.out x (by simp only [Kind.fp, List.mem_append]; exact Or.inl hx)
        · rcases mem_foot_set hltq hx with hx | hx
          · exact HG.out x (by simp only [Kind.fp, List.mem_append]; exact Or.inr hx)
          · have := hlo' x hx
            omega
      have R3 : Hid (∀ j (hj : j < (qs.set k p').length), k + 1 ≤ j → (qs.set k p')[j] = (⟨0, 0, 0, .slice none 0 0, []⟩ : TxnQ)) := fun j hj hkj => by
        rw [List.getElem_set_ne (by omega)]
        exact HZ.out j (by simpa using hj) (by omega)
      have R4 : Hid ((qs.set k p').length = ps.length) := by rw [List.length_set]; exact HQ.out
      have R5 : Hid (((qs.set k p').take (k + 1)).map TxnQ.e = (ps.take (k + 1)).map TxnQ.e) := HPE.out p' hpe
      clear hput hrow hrow0 hQ hO2 hO HN HG HZ HE HQ HPE hNq hdis hown' hnd' hlo' hfp hg0 hb hzk hrd hto hpe hkk hcp hP
      go_wp2
      go_roundw
      case rel => exact ⟨k + 1, qs.set k p', by omega, by go_num, R4.out, R5.out, R3.out, R.out.1, R1.out, R2.out, R.out.2⟩
      case measure => simp [intOf]; omega
    · have hkl : k = ps.length := by omega
      subst hkl
      have hQ := HQ.out
      have hE := HE.out
      rw [List.take_length, List.take_of_length_le (by omega)] at hE
      clear HE HZ
      go_wp2
      go_ret
      exact ⟨_, qs, rfl, hE, hO, HN.out, HG.out, hb⟩

end Go.Proofs.YtmlkfmjenkcflaaGreatDoor

/- What the helpers of the laws do with rounds, in the form of kinds. No condition. -/
namespace Go.Proofs.YtmlkfmjenkcflaaGreatDoor
open Go.RowKit
open Go.BigFrame
set_option linter.unusedVariables false
set_option maxRecDepth 100000
set_option linter.unusedSimpArgs false

def RoundQ.n (p : RoundQ) : Nat := p.rep.length + p.pro.length
def RoundQ.wf (p : RoundQ) : Prop := p.rep.length ≤ 9223372036854775807 ∧ p.pro.length ≤ 9223372036854775807
theorem infoRound : (Tryz.prog.info? 43).map (fun i => (i.zero, i.size, i.bytes)) = some (some (.agg #[.slice none 0 0, .slice none 0 0]), 2, 48) := by kernel_rfl


set_option maxHeartbeats 1000000 in
theorem szInts_k (v : Value) (zs : List Int) (c : Int) (w : World) (h : intK.At w v zs) (hn : zs.length ≤ 9223372036854775807) (h0 : 0 ≤ c) (h1 : c ≤ 1048576) :
    Calls Tryz.prog 11 #[v, .int .i64 c] w fun e w' => ∃ r : Int, e = .returned (.int .i64 r) ∧ (¬ r < 0 → (zs.length : Int) + r = c) ∧ Below w.heap.size w w' := by
  obtain ⟨a, cap, rfl⟩ := h.shape
  by_cases hbig : c - zs.length < 0
  · go_enter Tryz.func11, Tryz.ntmps11
    go_wp2
    go_ret
    exact ⟨_, rfl, fun h => by omega, Below.refl _ _⟩
  · go_enter Tryz.func11, Tryz.ntmps11
    go_wp2
    go_ret
    exact ⟨_, rfl, fun h => by omega, Below.refl _ _⟩

set_option maxHeartbeats 1000000 in
theorem szRound_k (p : RoundQ) (c : Int) (w : World) (h : roundK.rd w p) (hn : RoundQ.wf p) (h0 : 0 ≤ c) (h1 : c ≤ 1048576) :
    Calls Tryz.prog 25 #[.agg #[p.vr, p.vp], .int .i64 c] w fun e w' => ∃ r : Int, e = .returned (.int .i64 r) ∧ (¬ r < 0 → (RoundQ.n p : Int) + r = c) ∧ Below w.heap.size w w' := by
  obtain ⟨vr, rep, vp, pro⟩ := p
  obtain ⟨h_0, h_1⟩ : intK.At w vr rep ∧ intK.At w vp pro := h
  obtain ⟨hn_0, hn_1⟩ : rep.length ≤ 9223372036854775807 ∧ pro.length ≤ 9223372036854775807 := hn
  obtain ⟨a0, k0, rfl⟩ := h_0.shape
  obtain ⟨a1, k1, rfl⟩ := h_1.shape
  have B := Blk.new w 59 #[.slice a0 rep.length k0, .slice a1 pro.length k1]
  have hB : Below w.heap.size w (w.alloc (.cells #[.slice a0 rep.length k0, .slice a1 pro.length k1] 59)) := by go_grown
  dsimp only [RoundQ.n]
  go_enter Tryz.func25, Tryz.ntmps25
  go_wp2_with fail
  generalize w.alloc (.cells #[.slice a0 rep.length k0, .slice a1 pro.length k1] 59) = W at *
  refine (szInts_k _ rep c W (h_0.below hB) hn_0 (by omega) (by omega)).mono ?_
  rintro e w0 ⟨r0, rfl, hr0, hb0⟩
  replace B := B.below hb0
  replace hB := hB.trans (hb0.mono hB.size)
  clear hb0
  by_cases hneg0 : r0 < 0
  · go_wp2
    go_ret
    exact ⟨_, rfl, fun h => by omega, hB⟩
  have hs0 := hr0 hneg0
  clear hr0
  have p1 := B.cell 1 _ rfl
  go_wp2_with fail
  clear p1
  refine (szInts_k _ pro r0 w0 (h_1.below hB) hn_1 (by omega) (by omega)).mono ?_
  rintro e w1 ⟨r1, rfl, hr1, hb1⟩
  replace B := B.below hb1
  replace hB := hB.trans (hb1.mono hB.size)
  clear hb1
  by_cases hneg1 : r1 < 0
  · go_wp2
    go_ret
    exact ⟨_, rfl, fun h => by omega, hB⟩
  have hs1 := hr1 hneg1
  clear hr1
  go_wp2
  go_ret
  exact ⟨_, rfl, fun _ => by omega, hB⟩

set_option maxHeartbeats 1000000 in
theorem eqRound_k (p p' : RoundQ) (w : World) (h : roundK.rd w p) (h' : roundK.rd w p') (he : p.e = p'.e) (hl : RoundQ.n p ≤ 1048576) :
    Calls Tryz.prog 36 #[.agg #[p.vr, p.vp], .agg #[p'.vr, p'.vp]] w fun e w' => e = .returned (.bool true) ∧ Below w.heap.size w w' := by
  obtain ⟨vr, rep, vp, pro⟩ := p
  obtain ⟨vr', rep', vp', pro'⟩ := p'
  simp only [RoundQ.e, RoundE.mk.injEq] at he
  obtain ⟨e_0, e_1⟩ := he
  dsimp only [RoundQ.n] at hl
  obtain ⟨h_0, h_1⟩ : intK.At w vr rep ∧ intK.At w vp pro := h
  obtain ⟨g_0, g_1⟩ : intK.At w vr' rep'  ∧ intK.At w vp' pro'  := h'
  subst e_0
  subst e_1
  have hq0 := fun w h1 h2 => eqInts_k vr vr' rep w h1 h2 (by omega)
  have hq1 := fun w h1 h2 => eqInts_k vp vp' pro w h1 h2 (by omega)
  obtain ⟨a0, k0, rfl⟩ := h_0.shape
  obtain ⟨b0, m0, rfl⟩ := g_0.shape
  obtain ⟨a1, k1, rfl⟩ := h_1.shape
  obtain ⟨b1, m1, rfl⟩ := g_1.shape
  have B := (Blk.new w 43 #[.slice a0 rep.length k0, .slice a1 pro.length k1]).below (w' := (w.alloc (.cells #[.slice a0 rep.length k0, .slice a1 pro.length k1] 43)).alloc (.cells #[.slice b0 rep.length m0, .slice b1 pro.length m1] 43)) (by go_grown)
  have C := Blk.new (w.alloc (.cells #[.slice a0 rep.length k0, .slice a1 pro.length k1] 43)) 43 #[.slice b0 rep.length m0, .slice b1 pro.length m1]
  have hB : Below w.heap.size w ((w.alloc (.cells #[.slice a0 rep.length k0, .slice a1 pro.length k1] 43)).alloc (.cells #[.slice b0 rep.length m0, .slice b1 pro.length m1] 43)) := by go_grown
  rw [World.size_alloc] at C
  skip
  go_enter Tryz.func36, Tryz.ntmps36
  go_wp2_with fail
  generalize (w.alloc (.cells #[.slice a0 rep.length k0, .slice a1 pro.length k1] 43)).alloc (.cells #[.slice b0 rep.length m0, .slice b1 pro.length m1] 43) = W at *
  refine (hq0 W (h_0.below hB) (g_0.below hB)).mono ?_
  rintro e w0 ⟨rfl, hb0⟩
  replace B := B.below hb0
  replace C := C.below hb0
  replace hB := hB.trans (hb0.mono hB.size)
  clear hb0 hq0
  have p1 := B.cell 1 _ rfl
  have q1 := C.cell 1 _ rfl
  go_wp2_with fail
  clear p1 q1
  refine (hq1 w0 (h_1.below hB) (g_1.below hB)).mono ?_
  rintro e w1 ⟨rfl, hb1⟩
  replace B := B.below hb1
  replace C := C.below hb1
  replace hB := hB.trans (hb1.mono hB.size)
  clear hb1 hq1
  go_wp2
  go_ret
  exact ⟨rfl, hB⟩

theorem apart_of {A B : List Nat} {m : Nat} (hA : ∀ k ∈ A, k < m) (hB : ∀ k ∈ B, m ≤ k) : ∀ a ∈ A, ∀ b ∈ B, a ≠ b := fun a ha b hb e => by
  have := hA a ha
  have := hB b hb
  omega

set_option maxHeartbeats 2000000 in
theorem toRound_k (p : RoundQ) (w : World) (h : roundK.rd w p) (hl : RoundQ.n p ≤ 1048576) :
    Calls Tryz.prog 31 #[.agg #[p.vr, p.vp]] w fun e w' => ∃ p' : RoundQ, e = .returned (.agg #[p'.vr, p'.vp]) ∧ p'.e = p.e ∧ roundK.own w' p' ∧ (roundK.foot p').Nodup ∧ (∀ k ∈ roundK.foot p', w.heap.size ≤ k) ∧ Below w.heap.size w w' := by
  obtain ⟨vr, rep, vp, pro⟩ := p
  dsimp only [RoundQ.n] at hl
  obtain ⟨h_0, h_1⟩ : intK.At w vr rep ∧ intK.At w vp pro := h
  have ht0 := fun w h1 => toInts_k vr rep w h1 (by omega)
  have ht1 := fun w h1 => toInts_k vp pro w h1 (by omega)
  obtain ⟨a0, k0, rfl⟩ := h_0.shape
  obtain ⟨a1, k1, rfl⟩ := h_1.shape
  have B := (Blk.new w 59 #[.slice a0 rep.length k0, .slice a1 pro.length k1]).below (w' := ((w.alloc (.cells #[.slice a0 rep.length k0, .slice a1 pro.length k1] 59)).alloc (.cells #[.slice none 0 0, .slice none 0 0] 43)).alloc (.cells #[.slice none 0 0, .slice none 0 0] 43)) (by go_grown)
  have C := (Blk.new (w.alloc (.cells #[.slice a0 rep.length k0, .slice a1 pro.length k1] 59)) 43 #[.slice none 0 0, .slice none 0 0]).below (w' := ((w.alloc (.cells #[.slice a0 rep.length k0, .slice a1 pro.length k1] 59)).alloc (.cells #[.slice none 0 0, .slice none 0 0] 43)).alloc (.cells #[.slice none 0 0, .slice none 0 0] 43)) (by go_grown)
  have D := Blk.new ((w.alloc (.cells #[.slice a0 rep.length k0, .slice a1 pro.length k1] 59)).alloc (.cells #[.slice none 0 0, .slice none 0 0] 43)) 43 #[.slice none 0 0, .slice none 0 0]
  have hB : Below w.heap.size w (((w.alloc (.cells #[.slice a0 rep.length k0, .slice a1 pro.length k1] 59)).alloc (.cells #[.slice none 0 0, .slice none 0 0] 43)).alloc (.cells #[.slice none 0 0, .slice none 0 0] 43)) := by go_grown
  simp only [World.size_alloc] at C D
  have hS : w.heap.size + 3 ≤ (((w.alloc (.cells #[.slice a0 rep.length k0, .slice a1 pro.length k1] 59)).alloc (.cells #[.slice none 0 0, .slice none 0 0] 43)).alloc (.cells #[.slice none 0 0, .slice none 0 0] 43)).heap.size := by simp only [World.size_alloc]; omega
  go_enter Tryz.func31, Tryz.ntmps31
  go_wp2_with fail
  generalize ((w.alloc (.cells #[.slice a0 rep.length k0, .slice a1 pro.length k1] 59)).alloc (.cells #[.slice none 0 0, .slice none 0 0] 43)).alloc (.cells #[.slice none 0 0, .slice none 0 0] 43) = W at *
  refine (ht0 W (h_0.below hB)).mono ?_
  rintro e y0 ⟨v0, rfl, O0, N0, G0, hb⟩
  replace B := B.below hb
  replace C := C.below hb
  replace D := D.below hb
  replace hB := hB.trans (hb.mono hB.size)
  have s0 := hb.size
  obtain ⟨x0, z0, rfl⟩ := O0.shape
  clear hb ht0
  have p1 := B.cell 1 _ rfl
  have d0 := D.cell 0 _ rfl
  have f0 := D.frozen 0
  go_wp2_with fail
  clear p1 d0 f0
  have U0 := (Out.refl [w.heap.size + 1, w.heap.size + 1 + 1] y0).set (b := w.heap.size + 1 + 1) (j := 0) (u := .slice x0 rep.length z0) (by simp)
  replace D := D.set 0 (.slice x0 rep.length z0)
  replace B := B.other (b' := w.heap.size + 1 + 1) (by omega) 0 (.slice x0 rep.length z0)
  replace C := C.other (b' := w.heap.size + 1 + 1) (by omega) 0 (.slice x0 rep.length z0)
  replace hB := hB.setCell (p := ⟨w.heap.size + 1 + 1, 0, none⟩) (by show w.heap.size ≤ w.heap.size + 1 + 1; omega) (.slice x0 rep.length z0)
  have s1 := U0.size
  simp only [pjE] at D
  generalize y0.setCell ⟨w.heap.size + 1 + 1, 0, none⟩ (.slice x0 rep.length z0) = V0 at *
  refine (ht1 V0 (h_1.below hB)).mono ?_
  rintro e y1 ⟨v1, rfl, O1, N1, G1, hb⟩
  replace U0 := U0.call hb
  replace B := B.below hb
  replace C := C.below hb
  replace D := D.below hb
  replace hB := hB.trans (hb.mono hB.size)
  have s2 := hb.size
  obtain ⟨x1, z1, rfl⟩ := O1.shape
  clear hb ht1 B
  have d0 := D.cell 0 _ rfl
  have f0 := D.frozen 0
  have d1 := D.cell 1 _ rfl
  have f1 := D.frozen 1
  have c0 := C.cell 0 _ rfl
  have g0 := C.frozen 0
  have c1 := C.cell 1 _ rfl
  have g1 := C.frozen 1
  have R : Hid (∀ j u j' u' j2 u2, roundK.own (((y1.setCell ⟨w.heap.size + 1 + 1, j, none⟩ u).setCell ⟨w.heap.size + 1, j', none⟩ u').setCell ⟨w.heap.size + 1, j2, none⟩ u2) ⟨.slice x0 rep.length z0, rep, .slice x1 pro.length z1, pro⟩ ∧ Below w.heap.size w (((y1.setCell ⟨w.heap.size + 1 + 1, j, none⟩ u).setCell ⟨w.heap.size + 1, j', none⟩ u').setCell ⟨w.heap.size + 1, j2, none⟩ u2)) := by
    intro j u j' u' j2 u2
    have V0 := ((U0.set (b := w.heap.size + 1 + 1) (j := j) (u := u) (by simp)).set (b := w.heap.size + 1) (j := j') (u := u') (by simp)).set (b := w.heap.size + 1) (j := j2) (u := u2) (by simp)
    have V1 := (((Out.refl [w.heap.size + 1, w.heap.size + 1 + 1] y1).set (b := w.heap.size + 1 + 1) (j := j) (u := u) (by simp)).set (b := w.heap.size + 1) (j := j') (u := u') (by simp)).set (b := w.heap.size + 1) (j := j2) (u := u2) (by simp)
    refine ⟨⟨O0.out V0 (fun k hk => ?_), O1.out V1 (fun k hk => ?_)⟩, ?_⟩
    · have := G0 k hk
      simp only [List.mem_cons, List.not_mem_nil, or_false]; omega
    · have := G1 k hk
      simp only [List.mem_cons, List.not_mem_nil, or_false]; omega
    · exact ((hB.setCell (p := ⟨w.heap.size + 1 + 1, j, none⟩) (by show w.heap.size ≤ w.heap.size + 1 + 1; omega) u).setCell (p := ⟨w.heap.size + 1, j', none⟩) (by show w.heap.size ≤ w.heap.size + 1; omega) u').setCell (p := ⟨w.heap.size + 1, j2, none⟩) (by show w.heap.size ≤ w.heap.size + 1; omega) u2
  have R1 : Hid ((roundK.foot ⟨.slice x0 rep.length z0, rep, .slice x1 pro.length z1, pro⟩).Nodup ∧ (∀ k ∈ roundK.foot ⟨.slice x0 rep.length z0, rep, .slice x1 pro.length z1, pro⟩, w.heap.size ≤ k)) := by
    have L0 := O0.lt
    refine ⟨?_, ?_⟩
    · show List.Nodup (_ ++ _)
      exact List.nodup_append.2 ⟨N0, N1, apart_of (m := V0.heap.size) (fun k hk => by have := L0 k hk; omega) G1⟩
    · intro k hk
      rcases List.mem_append.1 hk with hk | hk
      · have := G0 k hk
        omega
      · have := G1 k hk
        omega
  clear O0 O1 N0 N1 G0 G1 U0 hB C D h_0 h_1
  go_wp2
  exact bodyPost_ret (v := .agg #[.slice x0 rep.length z0, .slice x1 pro.length z1]) (by simp [results, Tryz.results31, go_sem, c0, c1]) rfl ⟨⟨.slice x0 rep.length z0, rep, .slice x1 pro.length z1, pro⟩, rfl, rfl, (R.out _ _ _ _ _ _).1, R1.out.1, R1.out.2, (R.out _ _ _ _ _ _).2⟩

end Go.Proofs.YtmlkfmjenkcflaaGreatDoor

/- What the helpers of the laws do with lists of rounds, in the form of kinds: count, compare, copy. No condition. -/
namespace Go.Proofs.YtmlkfmjenkcflaaGreatDoor
open Go.RowKit
open Go.BigFrame
set_option linter.unusedVariables false
set_option maxRecDepth 100000
set_option linter.unusedSimpArgs false

set_option maxHeartbeats 1000000 in
theorem szRounds_k (v : Value) (ps : List RoundQ) (c : Int) (w : World) (h : roundK.At w v ps) (hn : ps.length ≤ 9223372036854775807) (hn1 : ∀ p ∈ ps, RoundQ.wf p) (h0 : 0 ≤ c) (h1 : c ≤ 1048576) :
    Calls Tryz.prog 10 #[v, .int .i64 c] w fun e w' => ∃ r : Int, e = .returned (.int .i64 r) ∧ (¬ r < 0 → ((ps.length + nmL RoundQ.n ps : Nat) : Int) + r = c) ∧ Below w.heap.size w w' := by
  obtain ⟨a, cap, rfl⟩ := h.shape
  by_cases hbig : c - ps.length < 0
  · go_enter Tryz.func10, Tryz.ntmps10
    go_wp2
    go_ret
    exact ⟨_, rfl, fun h => by omega, Below.refl _ _⟩
  · go_enter Tryz.func10, Tryz.ntmps10
    go_wp2
    go_loopw [1, 5] (fun l i wr => ∃ (k : Nat) (x : Int), k ≤ ps.length ∧ i = .int .i64 k ∧ l = .int .i64 x ∧ 0 ≤ x ∧ x ≤ 1048576 ∧ Hid (ps.length + nmL RoundQ.n (ps.take k) + x = c) ∧ Below w.heap.size w wr) (fun _ i _ => ps.length - (intOf i).toNat)
    case atStart => exact ⟨0, c - ps.length, Nat.zero_le _, rfl, by go_num, by omega, by omega, show _ = _ by simp [nmL]; omega, Below.refl _ _⟩
    case round =>
      obtain ⟨k, x, hk, rfl, rfl, hx0, hx1, HS, hb⟩ := hrel
      by_cases hlt : k < ps.length
      · obtain ⟨b, off, rfl, hbs, hc, hrd⟩ := (h.below hb).cell (by decide) k hlt
        have hc' : ∀ j x, (roundK.cells ps[k])[j]? = some x → wr.cell? ⟨b, off + k * 2 + j, none⟩ = some x := hc
        have c0 := hc' 0 (ps[k].vr) rfl
        have c1 := hc' 1 (ps[k].vp) rfl
        have hs := nmL_succ RoundQ.n ps k hlt
        have HN := hn1 _ (List.getElem_mem hlt)
        have HS' : Hid (∀ y : Int, (RoundQ.n ps[k] : Int) + y = x → ps.length + nmL RoundQ.n (ps.take (k + 1)) + y = c) := by
          intro y hy
          have := HS.out
          omega
        clear HS hs hc hc'
        generalize ps[k] = p at *
        have hsz := szRound_k p x wr hrd HN hx0 hx1
        generalize RoundQ.n p = m at *
        rw [Nat.add_zero] at c0
        go_wp2_with fail
        refine hsz.mono ?_
        rintro e w2 ⟨r, rfl, hr, hb2⟩
        replace hb := hb.trans (hb2.mono hb.size)
        clear hb2 hsz c0 c1
        by_cases hneg : r < 0
        · go_wp2
          go_ret
          exact ⟨_, rfl, fun h => by omega, hb⟩
        · have hrx := hr (by omega)
          have HR : Hid (ps.length + nmL RoundQ.n (ps.take (k + 1)) + r = c) := HS'.out r hrx
          have hr1 : r ≤ 1048576 := by omega
          clear HS' hr hrx
          go_wp2
          go_roundw
          case rel => exact ⟨k + 1, r, by omega, by go_num, rfl, by omega, hr1, HR.out, hb⟩
          case measure => simp [intOf]; omega
      · have hkl : k = ps.length := by omega
        subst hkl
        rw [List.take_length] at HS
        go_wp2
        go_ret
        exact ⟨_, rfl, fun _ => by have := HS.out; omega, hb⟩

set_option maxHeartbeats 2000000 in
theorem eqRounds_k (v v' : Value) (ps qs : List RoundQ) (w : World) (h : roundK.At w v ps) (h' : roundK.At w v' qs) (he : ps.map RoundQ.e = qs.map RoundQ.e) (hl : (ps.length + nmL RoundQ.n ps) ≤ 1048576) :
    Calls Tryz.prog 22 #[v, v'] w fun e w' => e = .returned (.bool true) ∧ Below w.heap.size w w' := by
  obtain ⟨a, cap, rfl⟩ := h.shape
  obtain ⟨a', cap', rfl⟩ := h'.shape
  have hlen : qs.length = ps.length := by
    have := congrArg List.length he
    simpa using this.symm
  rw [hlen] at h' ⊢
  have HL : Hid (qs.length = ps.length) := hlen
  clear hlen
  go_enter Tryz.func22, Tryz.ntmps22
  go_wp2
  go_loopw [5] (fun i wr => ∃ k : Nat, k ≤ ps.length ∧ i = .int .i64 k ∧ Below w.heap.size w wr) (fun i _ => ps.length - (intOf i).toNat)
  case atStart => exact ⟨0, Nat.zero_le _, rfl, Below.refl _ _⟩
  case round =>
    obtain ⟨k, hk, rfl, hb⟩ := hrel
    by_cases hlt : k < ps.length
    · have hlt' : k < qs.length := by have := HL.out; omega
      obtain ⟨b, off, rfl, hbs, hc, hrd⟩ := (h.below hb).cell (by decide) k hlt
      obtain ⟨b', off', rfl, hbs', hd, hrd'⟩ := (h'.below hb).cell (by decide) k hlt'
      have hc' : ∀ j x, (roundK.cells ps[k])[j]? = some x → wr.cell? ⟨b, off + k * 2 + j, none⟩ = some x := hc
      have hd' : ∀ j x, (roundK.cells qs[k])[j]? = some x → wr.cell? ⟨b', off' + k * 2 + j, none⟩ = some x := hd
      have c0 := hc' 0 (ps[k].vr) rfl
      have d0 := hd' 0 (qs[k].vr) rfl
      have c1 := hc' 1 (ps[k].vp) rfl
      have d1 := hd' 1 (qs[k].vp) rfl
      have hee : RoundQ.e ps[k] = RoundQ.e qs[k] := by
        have := congrArg (·[k]?) he
        simpa [hlt, hlt'] using this
      have hzl := nm_le RoundQ.n ps k hlt
      clear hc hc' hd hd'
      generalize ps[k] = p at *
      generalize qs[k] = p' at *
      have hEQ := fun w h1 h2 => eqRound_k p p' w h1 h2 hee (show RoundQ.n p ≤ 1048576 by omega)
      clear hee hzl
      rw [Nat.add_zero] at c0 d0
      have k0 := lat_cell c0
      have l0 := lat_cell d0
      have k1 := lat_cell c1
      have l1 := lat_cell d1
      clear c0 d0 c1 d1
      have hW : Below wr.heap.size wr wr.drew := (Below.refl _ _).drew
      have hne : Nonempty (Lat wr) := ⟨⟨wr, Below.refl _ _⟩⟩
      go_wp2_with fail
      refine text_begin (S := fun w' => ∃ u : Lat wr, w' = u.val) (by kernel_rfl) ?_
      refine sgr [(0, 8)] 2 (by kernel_rfl) ⟨⟨_, hW⟩, rfl⟩ ?_
      simp only [pkE]
      repeat go_big_quiet_step (fail)
      refine wpQuiet_nil ?_
      refine cla 8 (some 25) 36 #[.agg #[p.vr, p.vp], .agg #[p'.vr, p'.vp]] 1 (by kernel_rfl) ?_
      refine (hEQ _ (roundK.rd_below hrd hW) (roundK.rd_below hrd' hW)).mono ?_
      rintro e w2 ⟨rfl, hb2⟩
      replace hW := hW.trans (hb2.mono hW.size)
      clear hb2
      refine ⟨_, rfl, ⟨⟨_, hW⟩, rfl⟩, ?_⟩
      simp only [Act.put, pjE]
      refine sgr [(9, 1)] 0 (by kernel_rfl) ⟨⟨_, hW⟩, rfl⟩ ?_
      simp only [pkE]
      repeat go_big_quiet_step (fail)
      refine wpQuiet_nil ?_
      refine text_end (by kernel_rfl) ?_
      replace hb := hb.trans (hW.mono hb.size)
      clear k0 l0 k1 l1 hW hne hrd hrd' hEQ
      go_wp2
      go_roundw
      case rel => exact ⟨k + 1, by omega, by go_num, hb⟩
      case measure => simp [intOf]; omega
    · go_wp2
      go_ret
      exact ⟨rfl, hb⟩

set_option maxHeartbeats 2000000 in
theorem toRounds_k (v : Value) (ps : List RoundQ) (w : World) (h : roundK.At w v ps) (hl : (ps.length + nmL RoundQ.n ps) ≤ 1048576) :
    Calls Tryz.prog 15 #[v] w fun e w' => ∃ v' qs, e = .returned v' ∧ qs.map RoundQ.e = ps.map RoundQ.e ∧ roundK.Own w' v' qs ∧ (roundK.fp v' qs).Nodup ∧ (∀ k ∈ roundK.fp v' qs, w.heap.size ≤ k) ∧ Below w.heap.size w w' := by
  obtain ⟨a, cap, rfl⟩ := h.shape
  obtain ⟨i0, hi, hz0, hz1, hz2⟩ := info_parts infoRound
  have hbytes : i0.bytes * ps.length ≤ 281474976710656 := by rw [hz2]; omega
  have hmax : ps.length ≤ maxLen := by unfold maxLen; omega
  go_enter Tryz.func15, Tryz.ntmps15
  go_wp2_with (at_make; refine wpList_make_full _ rfl _ _ 30 rfl w.heap.size 43 i0 (.agg #[.slice none 0 0, .slice none 0 0]) 2 Tryz.underlying30 hi hz0 hz1 _ _ _ _ ps.length rfl rfl rfl rfl hbytes hmax (Nat.le_refl _) ?_)
  intro w1 hown hgrow
  have hb1 : Below w.heap.size w w1 := (Below.refl _ _).grown hgrow (Nat.le_refl _) (by simp)
  have hO : roundK.Own w1 (.slice (some ⟨w.heap.size, 0, none⟩) ps.length ps.length) (List.replicate ps.length (⟨.slice none 0 0, [], .slice none 0 0, []⟩ : RoundQ)) := by
    refine ⟨?_, fun p hp => ?_⟩
    · rw [List.length_replicate, ← made_row (⟨.slice none 0 0, [], .slice none 0 0, []⟩ : RoundQ) _ (by decide)]
      exact own_base hown (Nat.zero_le _)
    · rw [(List.mem_replicate.1 hp).2]
      exact ⟨⟨World.ownsRow_nil _ _ _ _, fun p hp => by simp at hp⟩, ⟨World.ownsRow_nil _ _ _ _, fun p hp => by simp at hp⟩⟩
  have hF : roundK.fp (.slice (some ⟨w.heap.size, 0, none⟩) ps.length ps.length) (List.replicate ps.length (⟨.slice none 0 0, [], .slice none 0 0, []⟩ : RoundQ)) = [w.heap.size] := fp_new rfl
  have HN : Hid ((roundK.fp (.slice (some ⟨w.heap.size, 0, none⟩) ps.length ps.length) (List.replicate ps.length (⟨.slice none 0 0, [], .slice none 0 0, []⟩ : RoundQ))).Nodup) := by rw [hF]; show List.Nodup _; simp
  have HG : Hid (∀ x ∈ roundK.fp (.slice (some ⟨w.heap.size, 0, none⟩) ps.length ps.length) (List.replicate ps.length (⟨.slice none 0 0, [], .slice none 0 0, []⟩ : RoundQ)), w.heap.size ≤ x) := by rw [hF]; intro x hx; simp at hx; omega
  have HZ : Hid (∀ j (hj : j < (List.replicate ps.length (⟨.slice none 0 0, [], .slice none 0 0, []⟩ : RoundQ)).length), 0 ≤ j → (List.replicate ps.length (⟨.slice none 0 0, [], .slice none 0 0, []⟩ : RoundQ))[j] = (⟨.slice none 0 0, [], .slice none 0 0, []⟩ : RoundQ)) := fun j hj _ => by simp
  have hql : (List.replicate ps.length (⟨.slice none 0 0, [], .slice none 0 0, []⟩ : RoundQ)).length = ps.length := by simp
  clear hown hgrow hF
  generalize List.replicate ps.length (⟨.slice none 0 0, [], .slice none 0 0, []⟩ : RoundQ) = qs0 at *
  have HE : Hid ((qs0.take 0).map RoundQ.e = (ps.take 0).map RoundQ.e) := show _ = _ by simp
  go_wp2
  go_loopw [4] (fun i wr => ∃ (k : Nat) (qs : List RoundQ), k ≤ ps.length ∧ i = .int .i64 k ∧ Hid (qs.length = ps.length) ∧ Hid ((qs.take k).map RoundQ.e = (ps.take k).map RoundQ.e) ∧ Hid (∀ j (hj : j < qs.length), k ≤ j → qs[j] = (⟨.slice none 0 0, [], .slice none 0 0, []⟩ : RoundQ)) ∧ roundK.Own wr (.slice (some ⟨w.heap.size, 0, none⟩) ps.length ps.length) qs ∧
    Hid ((roundK.fp (.slice (some ⟨w.heap.size, 0, none⟩) ps.length ps.length) qs).Nodup) ∧ Hid (∀ x ∈ roundK.fp (.slice (some ⟨w.heap.size, 0, none⟩) ps.length ps.length) qs, w.heap.size ≤ x) ∧ Below w.heap.size w wr) (fun i _ => ps.length - (intOf i).toNat)
  case atStart => exact ⟨0, qs0, Nat.zero_le _, rfl, hql, HE, HZ, hO, HN, HG, hb1⟩
  case round =>
    clear HE HZ hO HN HG hb1 hql
    obtain ⟨k, qs, hk, rfl, HQ, HE, HZ, hO, HN, HG, hb⟩ := hrel
    by_cases hlt : k < ps.length
    · have hltq : k < qs.length := by have := HQ.out; omega
      have hzk := HZ.out k hltq (Nat.le_refl _)
      obtain ⟨b, off, rfl, hbs, hc, hrd⟩ := (h.below hb).cell (by decide) k hlt
      have hc' : ∀ j x, (roundK.cells ps[k])[j]? = some x → wr.cell? ⟨b, off + k * 2 + j, none⟩ = some x := hc
      have c0 := hc' 0 (ps[k].vr) rfl
      have c1 := hc' 1 (ps[k].vp) rfl
      have hzl := nm_le RoundQ.n ps k hlt
      have HPE : Hid (∀ p' : RoundQ, p'.e = RoundQ.e ps[k] → ((qs.set k p').take (k + 1)).map RoundQ.e = (ps.take (k + 1)).map RoundQ.e) := by
        intro p' hp'
        have h1 := HE.out
        rw [List.take_succ_eq_append_getElem hlt, List.take_succ_eq_append_getElem (show k < (qs.set k p').length by simpa using hltq)]
        simp only [List.map_append, List.map_cons, List.map_nil, List.getElem_set_self, hp', List.take_set_of_le (Nat.le_refl k), h1]
      clear hc hc'
      generalize ps[k] = p at *
      have hto := toRound_k p wr hrd (by omega)
      rw [Nat.add_zero] at c0
      go_wp2_with fail
      refine hto.mono ?_
      rintro e w2 ⟨p', rfl, hpe, hown', hnd', hlo', hb2⟩
      obtain ⟨x0, y0, x1, y1⟩ := p'
      obtain ⟨o0, o1⟩ : intK.Own w2 x0 y0 ∧ intK.Own w2 x1 y1 := And.intro hown'.1 hown'.2
      obtain ⟨a0, b0, rfl⟩ := o0.shape
      obtain ⟨a1, b1, rfl⟩ := o1.shape
      clear o0 o1
      dsimp only
      generalize hP : (⟨.slice a0 y0.length b0, y0, .slice a1 y1.length b1, y1⟩ : RoundQ) = p' at hpe hown' hnd' hlo'
      have hcp : roundK.cells p' = [.slice a0 y0.length b0, .slice a1 y1.length b1] := by rw [← hP]; rfl
      have hO2 := hO.below hb2
      obtain ⟨e0, f0⟩ := hO2.cell k hltq 0 _ (by rw [hzk]; rfl)
      obtain ⟨e1, f1⟩ := hO2.cell k hltq 1 _ (by rw [hzk]; rfl)
      have hkk : ∀ j, k * roundK.size + j = k * 2 + j := fun j => rfl
      rw [hkk] at e0 f0 e1 f1
      rw [Nat.add_zero] at e0 f0
      have hrow0 := hO2.1
      have hQ := HQ.out
      rw [hQ] at hrow0
      have hrow := own_setFrom hrow0 (k * 2) [.slice a0 y0.length b0, .slice a1 y1.length b1]
      rw [← hcp] at hrow
      have hfp : ∀ x ∈ roundK.fp (.slice (some ⟨w.heap.size, 0, none⟩) ps.length ps.length) qs, x < wr.heap.size := hO.lt
      have hg0 : w.heap.size ∈ roundK.fp (.slice (some ⟨w.heap.size, 0, none⟩) ps.length ps.length) qs := by simp [Kind.fp, blk, Value.ownBlock]
      have hgl : w.heap.size < wr.heap.size := hfp _ hg0
      have hNq := HN.out
      have hdis : ∀ x ∈ roundK.foot p', x ∉ roundK.fp (.slice (some ⟨w.heap.size, 0, none⟩) ps.length ps.length) qs := fun x hx hxx => by have := hlo' x hx; have := hfp x hxx; omega
      have hput : roundK.Own ((w2.setCell ⟨w.heap.size, k * 2, none⟩ (.slice a0 y0.length b0)).setCell ⟨w.heap.size, k * 2 + 1, none⟩ (.slice a1 y1.length b1)) (.slice (some ⟨w.heap.size, 0, none⟩) ps.length ps.length) (qs.set k p') := by
        refine Kind.Own.put hO2 k hltq p' ?_ ((Out.setCell _ _ _ _).trans (Out.setCell _ _ _ _)) ?_ hown' ?_
        · rw [hQ]
          rw [hcp] at hrow ⊢
          exact hrow
        · intro q hq x hx hxe
          simp only [Kind.fp, blk, Value.ownBlock, Option.toList, List.cons_append, List.nil_append, List.nodup_cons] at hNq
          exact hNq.1 (List.mem_flatMap.2 ⟨q, hq, hxe ▸ hx⟩)
        · intro x hx hxe
          have := hlo' x hx
          omega
      have R : Hid (roundK.Own ((w2.setCell ⟨w.heap.size, k * 2, none⟩ (.slice a0 y0.length b0)).setCell ⟨w.heap.size, k * 2 + 1, none⟩ (.slice a1 y1.length b1)) (.slice (some ⟨w.heap.size, 0, none⟩) ps.length ps.length) (qs.set k p') ∧ Below w.heap.size w ((w2.setCell ⟨w.heap.size, k * 2, none⟩ (.slice a0 y0.length b0)).setCell ⟨w.heap.size, k * 2 + 1, none⟩ (.slice a1 y1.length b1))) := by
        refine ⟨hput, ?_⟩
        have hbb := hb.trans (hb2.mono hb.size)
        exact ((hbb.setCell (p := ⟨w.heap.size, k * 2, none⟩) (Nat.le_refl _) _).setCell (p := ⟨w.heap.size, k * 2 + 1, none⟩) (Nat.le_refl _) _)
      have R1 : Hid ((roundK.fp (.slice (some ⟨w.heap.size, 0, none⟩) ps.length ps.length) (qs.set k p')).Nodup) := nodup_put hNq k hltq p' (by rw [hzk]; rfl) hnd' hdis
      have R2 : Hid (∀ x ∈ roundK.fp (.slice (some ⟨w.heap.size, 0, none⟩) ps.length ps.length) (qs.set k p'), w.heap.size ≤ x) := by
        intro x hx
        simp only [Kind.fp, List.mem_append] at hx
        rcases hx with hx | hx
        · exact HG.out x (by simp only [Kind.fp, List.mem_append]; exact Or.inl hx)
        · rcases mem_foot_set hltq hx with hx | hx
          · exact HG.out x (by simp only [Kind.fp, List.mem_append]; exact Or.inr hx)
          · have := hlo' x hx
            omega
      have R3 : Hid (∀ j (hj : j < (qs.set k p').length), k + 1 ≤ j → (qs.set k p')[j] = (⟨.slice none 0 0, [], .slice none 0 0, []⟩ : RoundQ)) := fun j hj hkj => by
        rw [List.getElem_set_ne (by omega)]
        exact HZ.out j (by simpa using hj) (by omega)
      have R4 : Hid ((qs.set k p').length = ps.length) := by rw [List.length_set]; exact HQ.out
      have R5 : Hid (((qs.set k p').take (k + 1)).map RoundQ.e = (ps.take (k + 1)).map RoundQ.e) := HPE.out p' hpe
      clear hput hrow hrow0 hQ hO2 hO HN HG HZ HE HQ HPE hNq hdis hown' hnd' hlo' hfp hg0 hb hzk hrd hto hpe hkk hcp hP
      go_wp2
      go_roundw
      case rel => exact ⟨k + 1, qs.set k p', by omega, by go_num, R4.out, R5.out, R3.out, R.out.1, R1.out, R2.out, R.out.2⟩
      case measure => simp [intOf]; omega
    · have hkl : k = ps.length := by omega
      subst hkl
      have hQ := HQ.out
      have hE := HE.out
      rw [List.take_length, List.take_of_length_le (by omega)] at hE
      clear HE HZ
      go_wp2
      go_ret
      exact ⟨_, qs, rfl, hE, hO, HN.out, HG.out, hb⟩

end Go.Proofs.YtmlkfmjenkcflaaGreatDoor

/- What the helpers of the laws do with an instance, in the form of kinds: count, compare, copy. No condition. -/
namespace Go.Proofs.YtmlkfmjenkcflaaGreatDoor
open Go.RowKit
open Go.BigFrame
set_option linter.unusedVariables false
set_option maxRecDepth 100000
set_option linter.unusedSimpArgs false

def InstQ.n (p : InstQ) : Nat := (p.batch.length + nmL TxnQ.n p.batch) + (p.rounds.length + nmL RoundQ.n p.rounds) + p.dec.length
def InstQ.wf (p : InstQ) : Prop := (p.batch.length ≤ 9223372036854775807 ∧ ∀ q ∈ p.batch, TxnQ.wf q) ∧ (p.rounds.length ≤ 9223372036854775807 ∧ ∀ q ∈ p.rounds, RoundQ.wf q) ∧ p.dec.length ≤ 9223372036854775807

set_option maxHeartbeats 1000000 in
theorem szInstance_k (p : InstQ) (c : Int) (w : World) (h : instK.rd w p) (hn : InstQ.wf p) (h0 : 0 ≤ c) (h1 : c ≤ 1048576) :
    Calls Tryz.prog 4 #[.agg #[.bool p.has, p.vb, p.vr, p.vd], .int .i64 c] w fun e w' => ∃ r : Int, e = .returned (.int .i64 r) ∧ (¬ r < 0 → (InstQ.n p : Int) + r = c) ∧ Below w.heap.size w w' := by
  obtain ⟨has, vb, batch, vr, rounds, vd, dec⟩ := p
  obtain ⟨h_1, h_2, h_3⟩ : txnK.At w vb batch ∧ roundK.At w vr rounds ∧ intK.At w vd dec := h
  obtain ⟨hn_1, hn_2, hn_3⟩ : (batch.length ≤ 9223372036854775807 ∧ ∀ p ∈ batch, TxnQ.wf p) ∧ (rounds.length ≤ 9223372036854775807 ∧ ∀ p ∈ rounds, RoundQ.wf p) ∧ dec.length ≤ 9223372036854775807 := hn
  obtain ⟨a1, k1, rfl⟩ := h_1.shape
  obtain ⟨a2, k2, rfl⟩ := h_2.shape
  obtain ⟨a3, k3, rfl⟩ := h_3.shape
  have B := Blk.new w 26 #[.bool has, .slice a1 batch.length k1, .slice a2 rounds.length k2, .slice a3 dec.length k3]
  have hB : Below w.heap.size w (w.alloc (.cells #[.bool has, .slice a1 batch.length k1, .slice a2 rounds.length k2, .slice a3 dec.length k3] 26)) := by go_grown
  dsimp only [InstQ.n]
  go_enter Tryz.func4, Tryz.ntmps4
  go_wp2_with fail
  generalize w.alloc (.cells #[.bool has, .slice a1 batch.length k1, .slice a2 rounds.length k2, .slice a3 dec.length k3] 26) = W at *
  refine (szTxns_k _ batch c W (h_1.below hB) hn_1.1 hn_1.2 (by omega) (by omega)).mono ?_
  rintro e w1 ⟨r1, rfl, hr1, hb1⟩
  replace B := B.below hb1
  replace hB := hB.trans (hb1.mono hB.size)
  clear hb1
  by_cases hneg1 : r1 < 0
  · go_wp2
    go_ret
    exact ⟨_, rfl, fun h => by omega, hB⟩
  have hs1 := hr1 hneg1
  clear hr1
  have p2 := B.cell 2 _ rfl
  go_wp2_with fail
  clear p2
  refine (szRounds_k _ rounds r1 w1 (h_2.below hB) hn_2.1 hn_2.2 (by omega) (by omega)).mono ?_
  rintro e w2 ⟨r2, rfl, hr2, hb2⟩
  replace B := B.below hb2
  replace hB := hB.trans (hb2.mono hB.size)
  clear hb2
  by_cases hneg2 : r2 < 0
  · go_wp2
    go_ret
    exact ⟨_, rfl, fun h => by omega, hB⟩
  have hs2 := hr2 hneg2
  clear hr2
  have p3 := B.cell 3 _ rfl
  go_wp2_with fail
  clear p3
  refine (szInts_k _ dec r2 w2 (h_3.below hB) hn_3 (by omega) (by omega)).mono ?_
  rintro e w3 ⟨r3, rfl, hr3, hb3⟩
  replace B := B.below hb3
  replace hB := hB.trans (hb3.mono hB.size)
  clear hb3
  by_cases hneg3 : r3 < 0
  · go_wp2
    go_ret
    exact ⟨_, rfl, fun h => by omega, hB⟩
  have hs3 := hr3 hneg3
  clear hr3
  go_wp2
  go_ret
  exact ⟨_, rfl, fun _ => by omega, hB⟩

set_option maxHeartbeats 1000000 in
theorem eqInstance_k (p p' : InstQ) (w : World) (h : instK.rd w p) (h' : instK.rd w p') (he : p.e = p'.e) (hl : InstQ.n p ≤ 1048576) :
    Calls Tryz.prog 8 #[.agg #[.bool p.has, p.vb, p.vr, p.vd], .agg #[.bool p'.has, p'.vb, p'.vr, p'.vd]] w fun e w' => e = .returned (.bool true) ∧ Below w.heap.size w w' := by
  obtain ⟨has, vb, batch, vr, rounds, vd, dec⟩ := p
  obtain ⟨has', vb', batch', vr', rounds', vd', dec'⟩ := p'
  simp only [InstQ.e, InstE.mk.injEq] at he
  obtain ⟨e_0, e_1, e_2, e_3⟩ := he
  dsimp only [InstQ.n] at hl
  obtain ⟨h_1, h_2, h_3⟩ : txnK.At w vb batch ∧ roundK.At w vr rounds ∧ intK.At w vd dec := h
  obtain ⟨g_1, g_2, g_3⟩ : txnK.At w vb' batch'  ∧ roundK.At w vr' rounds'  ∧ intK.At w vd' dec'  := h'
  subst e_0
  subst e_3
  have hq1 := fun w h1 h2 => eqTxns_k vb vb' batch batch' w h1 h2 e_1 (by omega)
  have hq2 := fun w h1 h2 => eqRounds_k vr vr' rounds rounds' w h1 h2 e_2 (by omega)
  have hq3 := fun w h1 h2 => eqInts_k vd vd' dec w h1 h2 (by omega)
  obtain ⟨a1, k1, rfl⟩ := h_1.shape
  obtain ⟨b1, m1, rfl⟩ := g_1.shape
  obtain ⟨a2, k2, rfl⟩ := h_2.shape
  obtain ⟨b2, m2, rfl⟩ := g_2.shape
  obtain ⟨a3, k3, rfl⟩ := h_3.shape
  obtain ⟨b3, m3, rfl⟩ := g_3.shape
  have B := (Blk.new w 32 #[.bool has, .slice a1 batch.length k1, .slice a2 rounds.length k2, .slice a3 dec.length k3]).below (w' := (w.alloc (.cells #[.bool has, .slice a1 batch.length k1, .slice a2 rounds.length k2, .slice a3 dec.length k3] 32)).alloc (.cells #[.bool has, .slice b1 batch'.length m1, .slice b2 rounds'.length m2, .slice b3 dec.length m3] 32)) (by go_grown)
  have C := Blk.new (w.alloc (.cells #[.bool has, .slice a1 batch.length k1, .slice a2 rounds.length k2, .slice a3 dec.length k3] 32)) 32 #[.bool has, .slice b1 batch'.length m1, .slice b2 rounds'.length m2, .slice b3 dec.length m3]
  have hB : Below w.heap.size w ((w.alloc (.cells #[.bool has, .slice a1 batch.length k1, .slice a2 rounds.length k2, .slice a3 dec.length k3] 32)).alloc (.cells #[.bool has, .slice b1 batch'.length m1, .slice b2 rounds'.length m2, .slice b3 dec.length m3] 32)) := by go_grown
  rw [World.size_alloc] at C
  have n0 : (has != has) = false := by simp
  clear e_1 e_2
  go_enter Tryz.func8, Tryz.ntmps8
  go_wp2_with fail
  generalize (w.alloc (.cells #[.bool has, .slice a1 batch.length k1, .slice a2 rounds.length k2, .slice a3 dec.length k3] 32)).alloc (.cells #[.bool has, .slice b1 batch'.length m1, .slice b2 rounds'.length m2, .slice b3 dec.length m3] 32) = W at *
  refine (hq1 W (h_1.below hB) (g_1.below hB)).mono ?_
  rintro e w1 ⟨rfl, hb1⟩
  replace B := B.below hb1
  replace C := C.below hb1
  replace hB := hB.trans (hb1.mono hB.size)
  clear hb1 hq1
  have p2 := B.cell 2 _ rfl
  have q2 := C.cell 2 _ rfl
  go_wp2_with fail
  clear p2 q2
  refine (hq2 w1 (h_2.below hB) (g_2.below hB)).mono ?_
  rintro e w2 ⟨rfl, hb2⟩
  replace B := B.below hb2
  replace C := C.below hb2
  replace hB := hB.trans (hb2.mono hB.size)
  clear hb2 hq2
  have p3 := B.cell 3 _ rfl
  have q3 := C.cell 3 _ rfl
  go_wp2_with fail
  clear p3 q3
  refine (hq3 w2 (h_3.below hB) (g_3.below hB)).mono ?_
  rintro e w3 ⟨rfl, hb3⟩
  replace B := B.below hb3
  replace C := C.below hb3
  replace hB := hB.trans (hb3.mono hB.size)
  clear hb3 hq3
  go_wp2
  go_ret
  exact ⟨rfl, hB⟩

set_option maxHeartbeats 4000000 in
theorem toInstance_k (p : InstQ) (w : World) (h : instK.rd w p) (hl : InstQ.n p ≤ 1048576) :
    Calls Tryz.prog 6 #[.agg #[.bool p.has, p.vb, p.vr, p.vd]] w fun e w' => ∃ p' : InstQ, e = .returned (.agg #[.bool p'.has, p'.vb, p'.vr, p'.vd]) ∧ p'.e = p.e ∧ instK.own w' p' ∧ (instK.foot p').Nodup ∧ (∀ k ∈ instK.foot p', w.heap.size ≤ k) ∧ Below w.heap.size w w' := by
  obtain ⟨has, vb, batch, vr, rounds, vd, dec⟩ := p
  dsimp only [InstQ.n] at hl
  obtain ⟨h_1, h_2, h_3⟩ : txnK.At w vb batch ∧ roundK.At w vr rounds ∧ intK.At w vd dec := h
  have ht1 := fun w h1 => toTxns_k vb batch w h1 (by omega)
  have ht2 := fun w h1 => toRounds_k vr rounds w h1 (by omega)
  have ht3 := fun w h1 => toInts_k vd dec w h1 (by omega)
  obtain ⟨a1, k1, rfl⟩ := h_1.shape
  obtain ⟨a2, k2, rfl⟩ := h_2.shape
  obtain ⟨a3, k3, rfl⟩ := h_3.shape
  have B := (Blk.new w 26 #[.bool has, .slice a1 batch.length k1, .slice a2 rounds.length k2, .slice a3 dec.length k3]).below (w' := ((w.alloc (.cells #[.bool has, .slice a1 batch.length k1, .slice a2 rounds.length k2, .slice a3 dec.length k3] 26)).alloc (.cells #[.bool false, .slice none 0 0, .slice none 0 0, .slice none 0 0] 32)).alloc (.cells #[.bool has, .slice none 0 0, .slice none 0 0, .slice none 0 0] 32)) (by go_grown)
  have C := (Blk.new (w.alloc (.cells #[.bool has, .slice a1 batch.length k1, .slice a2 rounds.length k2, .slice a3 dec.length k3] 26)) 32 #[.bool false, .slice none 0 0, .slice none 0 0, .slice none 0 0]).below (w' := ((w.alloc (.cells #[.bool has, .slice a1 batch.length k1, .slice a2 rounds.length k2, .slice a3 dec.length k3] 26)).alloc (.cells #[.bool false, .slice none 0 0, .slice none 0 0, .slice none 0 0] 32)).alloc (.cells #[.bool has, .slice none 0 0, .slice none 0 0, .slice none 0 0] 32)) (by go_grown)
  have D := Blk.new ((w.alloc (.cells #[.bool has, .slice a1 batch.length k1, .slice a2 rounds.length k2, .slice a3 dec.length k3] 26)).alloc (.cells #[.bool false, .slice none 0 0, .slice none 0 0, .slice none 0 0] 32)) 32 #[.bool has, .slice none 0 0, .slice none 0 0, .slice none 0 0]
  have hB : Below w.heap.size w (((w.alloc (.cells #[.bool has, .slice a1 batch.length k1, .slice a2 rounds.length k2, .slice a3 dec.length k3] 26)).alloc (.cells #[.bool false, .slice none 0 0, .slice none 0 0, .slice none 0 0] 32)).alloc (.cells #[.bool has, .slice none 0 0, .slice none 0 0, .slice none 0 0] 32)) := by go_grown
  simp only [World.size_alloc] at C D
  have hS : w.heap.size + 3 ≤ (((w.alloc (.cells #[.bool has, .slice a1 batch.length k1, .slice a2 rounds.length k2, .slice a3 dec.length k3] 26)).alloc (.cells #[.bool false, .slice none 0 0, .slice none 0 0, .slice none 0 0] 32)).alloc (.cells #[.bool has, .slice none 0 0, .slice none 0 0, .slice none 0 0] 32)).heap.size := by simp only [World.size_alloc]; omega
  go_enter Tryz.func6, Tryz.ntmps6
  go_wp2_with fail
  generalize ((w.alloc (.cells #[.bool has, .slice a1 batch.length k1, .slice a2 rounds.length k2, .slice a3 dec.length k3] 26)).alloc (.cells #[.bool false, .slice none 0 0, .slice none 0 0, .slice none 0 0] 32)).alloc (.cells #[.bool has, .slice none 0 0, .slice none 0 0, .slice none 0 0] 32) = W at *
  refine (ht1 W (h_1.below hB)).mono ?_
  rintro e y1 ⟨v1, q1, rfl, E1, O1, N1, G1, hb⟩
  replace B := B.below hb
  replace C := C.below hb
  replace D := D.below hb
  replace hB := hB.trans (hb.mono hB.size)
  have s1 := hb.size
  obtain ⟨x1, z1, rfl⟩ := O1.shape
  clear hb ht1
  have p2 := B.cell 2 _ rfl
  have d1 := D.cell 1 _ rfl
  have f1 := D.frozen 1
  go_wp2_with fail
  clear p2 d1 f1
  have U1 := (Out.refl [w.heap.size + 1, w.heap.size + 1 + 1] y1).set (b := w.heap.size + 1 + 1) (j := 1) (u := .slice x1 q1.length z1) (by simp)
  replace D := D.set 1 (.slice x1 q1.length z1)
  replace B := B.other (b' := w.heap.size + 1 + 1) (by omega) 1 (.slice x1 q1.length z1)
  replace C := C.other (b' := w.heap.size + 1 + 1) (by omega) 1 (.slice x1 q1.length z1)
  replace hB := hB.setCell (p := ⟨w.heap.size + 1 + 1, 1, none⟩) (by show w.heap.size ≤ w.heap.size + 1 + 1; omega) (.slice x1 q1.length z1)
  simp only [pjE] at D
  have t1 := U1.size
  generalize y1.setCell ⟨w.heap.size + 1 + 1, 1, none⟩ (.slice x1 q1.length z1) = V1 at *
  refine (ht2 V1 (h_2.below hB)).mono ?_
  rintro e y2 ⟨v2, q2, rfl, E2, O2, N2, G2, hb⟩
  replace U1 := U1.call hb
  replace B := B.below hb
  replace C := C.below hb
  replace D := D.below hb
  replace hB := hB.trans (hb.mono hB.size)
  have s2 := hb.size
  obtain ⟨x2, z2, rfl⟩ := O2.shape
  clear hb ht2
  have p3 := B.cell 3 _ rfl
  have d2 := D.cell 2 _ rfl
  have f2 := D.frozen 2
  go_wp2_with fail
  clear p3 d2 f2
  have U2 := (Out.refl [w.heap.size + 1, w.heap.size + 1 + 1] y2).set (b := w.heap.size + 1 + 1) (j := 2) (u := .slice x2 q2.length z2) (by simp)
  replace U1 := U1.set (b := w.heap.size + 1 + 1) (j := 2) (u := .slice x2 q2.length z2) (by simp)
  replace D := D.set 2 (.slice x2 q2.length z2)
  replace B := B.other (b' := w.heap.size + 1 + 1) (by omega) 2 (.slice x2 q2.length z2)
  replace C := C.other (b' := w.heap.size + 1 + 1) (by omega) 2 (.slice x2 q2.length z2)
  replace hB := hB.setCell (p := ⟨w.heap.size + 1 + 1, 2, none⟩) (by show w.heap.size ≤ w.heap.size + 1 + 1; omega) (.slice x2 q2.length z2)
  simp only [pjE] at D
  have t2 := U2.size
  generalize y2.setCell ⟨w.heap.size + 1 + 1, 2, none⟩ (.slice x2 q2.length z2) = V2 at *
  refine (ht3 V2 (h_3.below hB)).mono ?_
  rintro e y3 ⟨v3, rfl, O3, N3, G3, hb⟩
  replace U1 := U1.call hb
  replace U2 := U2.call hb
  replace B := B.below hb
  replace C := C.below hb
  replace D := D.below hb
  replace hB := hB.trans (hb.mono hB.size)
  have s3 := hb.size
  obtain ⟨x3, z3, rfl⟩ := O3.shape
  clear hb ht3
  clear B
  have d0 := D.cell 0 _ rfl
  have f0 := D.frozen 0
  have c0 := C.cell 0 _ rfl
  have g0 := C.frozen 0
  have d1 := D.cell 1 _ rfl
  have f1 := D.frozen 1
  have c1 := C.cell 1 _ rfl
  have g1 := C.frozen 1
  have d2 := D.cell 2 _ rfl
  have f2 := D.frozen 2
  have c2 := C.cell 2 _ rfl
  have g2 := C.frozen 2
  have d3 := D.cell 3 _ rfl
  have f3 := D.frozen 3
  have c3 := C.cell 3 _ rfl
  have g3 := C.frozen 3
  have R : Hid (∀ j u j' u' j'' u'' j''' u''' j'''' u'''', instK.own (((((y3.setCell ⟨w.heap.size + 1 + 1, j, none⟩ u).setCell ⟨w.heap.size + 1, j', none⟩ u').setCell ⟨w.heap.size + 1, j'', none⟩ u'').setCell ⟨w.heap.size + 1, j''', none⟩ u''').setCell ⟨w.heap.size + 1, j'''', none⟩ u'''') ⟨has, .slice x1 q1.length z1, q1, .slice x2 q2.length z2, q2, .slice x3 dec.length z3, dec⟩ ∧ Below w.heap.size w (((((y3.setCell ⟨w.heap.size + 1 + 1, j, none⟩ u).setCell ⟨w.heap.size + 1, j', none⟩ u').setCell ⟨w.heap.size + 1, j'', none⟩ u'').setCell ⟨w.heap.size + 1, j''', none⟩ u''').setCell ⟨w.heap.size + 1, j'''', none⟩ u'''')) := by
    intro j u j' u' j'' u'' j''' u''' j'''' u''''
    have X1 := (((((U1.set (b := w.heap.size + 1 + 1) (j := j) (u := u) (by simp)).set (b := w.heap.size + 1) (j := j') (u := u') (by simp)).set (b := w.heap.size + 1) (j := j'') (u := u'') (by simp)).set (b := w.heap.size + 1) (j := j''') (u := u''') (by simp)).set (b := w.heap.size + 1) (j := j'''') (u := u'''') (by simp))
    have X2 := (((((U2.set (b := w.heap.size + 1 + 1) (j := j) (u := u) (by simp)).set (b := w.heap.size + 1) (j := j') (u := u') (by simp)).set (b := w.heap.size + 1) (j := j'') (u := u'') (by simp)).set (b := w.heap.size + 1) (j := j''') (u := u''') (by simp)).set (b := w.heap.size + 1) (j := j'''') (u := u'''') (by simp))
    have X3 := ((((((Out.refl [w.heap.size + 1, w.heap.size + 1 + 1] y3).set (b := w.heap.size + 1 + 1) (j := j) (u := u) (by simp)).set (b := w.heap.size + 1) (j := j') (u := u') (by simp)).set (b := w.heap.size + 1) (j := j'') (u := u'') (by simp)).set (b := w.heap.size + 1) (j := j''') (u := u''') (by simp)).set (b := w.heap.size + 1) (j := j'''') (u := u'''') (by simp))
    refine ⟨⟨O1.out X1 (fun k hk => ?_), O2.out X2 (fun k hk => ?_), O3.out X3 (fun k hk => ?_)⟩, ?_⟩
    · have := G1 k hk
      simp only [List.mem_cons, List.not_mem_nil, or_false]; omega
    · have := G2 k hk
      simp only [List.mem_cons, List.not_mem_nil, or_false]; omega
    · have := G3 k hk
      simp only [List.mem_cons, List.not_mem_nil, or_false]; omega
    · exact (((((hB.setCell (p := ⟨w.heap.size + 1 + 1, j, none⟩) (by show w.heap.size ≤ w.heap.size + 1 + 1; omega) u).setCell (p := ⟨w.heap.size + 1, j', none⟩) (by show w.heap.size ≤ w.heap.size + 1; omega) u').setCell (p := ⟨w.heap.size + 1, j'', none⟩) (by show w.heap.size ≤ w.heap.size + 1; omega) u'').setCell (p := ⟨w.heap.size + 1, j''', none⟩) (by show w.heap.size ≤ w.heap.size + 1; omega) u''').setCell (p := ⟨w.heap.size + 1, j'''', none⟩) (by show w.heap.size ≤ w.heap.size + 1; omega) u'''')
  have R1 : Hid ((instK.foot ⟨has, .slice x1 q1.length z1, q1, .slice x2 q2.length z2, q2, .slice x3 dec.length z3, dec⟩).Nodup ∧ (∀ k ∈ instK.foot ⟨has, .slice x1 q1.length z1, q1, .slice x2 q2.length z2, q2, .slice x3 dec.length z3, dec⟩, w.heap.size ≤ k)) := by
    have L1 := O1.lt
    have L2 := O2.lt
    have L3 := O3.lt
    have T1 := U1.size
    have T2 := U2.size
    refine ⟨?_, ?_⟩
    · show List.Nodup (_ ++ _)
      exact List.nodup_append.2 ⟨N1, List.nodup_append.2 ⟨N2, N3, apart_of (m := (V2).heap.size) (fun k hk => by have := L2 k hk; omega) (fun k hk => by have := G3 k hk; omega)⟩, apart_of (m := (V1).heap.size) (fun k hk => by have := L1 k hk; omega) (fun k hk => by rcases List.mem_append.1 hk with hk | hk <;> first | (have := G2 k hk; omega) | (have := G3 k hk; omega))⟩
    · exact (fun k hk => by rcases List.mem_append.1 hk with hk | hk <;> first | (have := G1 k hk; omega) | (rcases List.mem_append.1 hk with hk | hk <;> first | (have := G2 k hk; omega) | (have := G3 k hk; omega)))
  have R2 : Hid (InstQ.e ⟨has, .slice x1 q1.length z1, q1, .slice x2 q2.length z2, q2, .slice x3 dec.length z3, dec⟩ = InstQ.e ⟨has, .slice a1 batch.length k1, batch, .slice a2 rounds.length k2, rounds, .slice a3 dec.length k3, dec⟩) := show _ = _ by simp only [InstQ.e, E1, E2]
  clear O1 N1 G1 O2 N2 G2 O3 N3 G3 U1 U2 E1 E2 hB C D h_1 h_2 h_3
  go_wp2
  exact bodyPost_ret (v := .agg #[.bool has, .slice x1 q1.length z1, .slice x2 q2.length z2, .slice x3 dec.length z3]) (by simp [results, Tryz.results6, go_sem, c0, c1, c2, c3]) rfl ⟨⟨has, .slice x1 q1.length z1, q1, .slice x2 q2.length z2, q2, .slice x3 dec.length z3, dec⟩, rfl, R2.out, (R.out _ _ _ _ _ _ _ _ _ _).1, R1.out.1, R1.out.2, (R.out _ _ _ _ _ _ _ _ _ _).2⟩

end Go.Proofs.YtmlkfmjenkcflaaGreatDoor

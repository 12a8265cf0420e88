/- HasTxn, of the program and of its model. No condition. -/
import Derived.Test.YtbdphnmkpkgdeaaK8a
import Derived.Test.YtbdphnmkpkgdeaaBlk
namespace Go.Proofs.Ytbdphnmkpkgdeaa
open Go.RowKit
open Go.BigFrame
set_option linter.unusedVariables false
set_option linter.unusedSimpArgs false

set_option maxHeartbeats 1000000 in
theorem isStandingFor_any (i s q : Int) (a : Option Addr) (n c : Nat) (i' s' q' : Int) (a' : Option Addr) (n' c' : Nat) (xs ys : List ActD) (w : World) :
    Calls Try.prog 53 #[.agg #[.int .i64 i, .int .i64 s, .int .i64 q, .slice a n c], .agg #[.int .i64 i', .int .i64 s', .int .i64 q', .slice a' n' c']] w fun e w' => e = .returned (.bool (stF ⟨i, s, q, xs⟩ ⟨i', s', q', ys⟩)) ∧ Below w.heap.size w w' := by
  unfold stF
  dsimp only
  cases h1 : (i == i')
  · cases h2 : (s == s')
    · go_enter Try.func53, Try.ntmps53
      go_wp2
      go_ret
      exact ⟨rfl, by go_grown⟩
    · cases h3 : (q == q')
      · go_enter Try.func53, Try.ntmps53
        go_wp2
        go_ret
        exact ⟨rfl, by go_grown⟩
      · go_enter Try.func53, Try.ntmps53
        go_wp2
        go_ret
        exact ⟨rfl, by go_grown⟩
  · go_enter Try.func53, Try.ntmps53
    go_wp2
    go_ret
    exact ⟨rfl, by go_grown⟩

set_option maxHeartbeats 1000000 in
theorem hasOne_any (i s q : Int) (a : Option Addr) (n c : Nat) (xs : List ActD) (x : TxnD) (bx : Nat) (a' : Option Addr) (n' c' : Nat) (w : World) (hX : Blk w bx 35 #[.int .i64 x.id, .int .i64 x.session, .int .i64 x.seq, .slice a' n' c']) :
    Calls Try.prog 52 #[.agg #[.int .i64 i, .int .i64 s, .int .i64 q, .slice a n c], .pointer (some ⟨bx, 0, none⟩)] w fun e w' => e = .returned (.bool (stF ⟨i, s, q, xs⟩ x)) ∧ Below w.heap.size w w' := by
  obtain ⟨xi, xs', xq, xa⟩ := x
  have hB : Below w.heap.size w (w.alloc (.cells #[.int .i64 i, .int .i64 s, .int .i64 q, .slice a n c] 35)) := by go_grown
  have hX' := hX.below hB
  have hq := fun w => isStandingFor_any i s q a n c xi xs' xq a' n' c' xs xa w
  have x0 := hX'.cell 0 _ rfl
  have x1 := hX'.cell 1 _ rfl
  have x2 := hX'.cell 2 _ rfl
  have x3 := hX'.cell 3 _ rfl
  generalize stF ⟨i, s, q, xs⟩ ⟨xi, xs', xq, xa⟩ = E at *
  go_enter Try.func52, Try.ntmps52
  go_wp2_with fail
  refine (hq _).mono ?_
  rintro e w2 ⟨rfl, hb2⟩
  replace hB := hB.trans (hb2.mono hB.size)
  go_wp2
  go_ret
  exact ⟨rfl, hB⟩

set_option maxHeartbeats 2000000 in
theorem indexFuncT_any (v : Value) (ps : List TxnQ) (x : TxnD) (bx : Nat) (a' : Option Addr) (n' c' : Nat) (w : World) (h : txnK.At w v ps) (hX : Blk w bx 35 #[.int .i64 x.id, .int .i64 x.session, .int .i64 x.seq, .slice a' n' c']) (hl : ps.length ≤ 1048576) :
    Calls Try.prog 73 #[v, .func (.func 52) #[] #[.pointer (some ⟨bx, 0, none⟩)]] w fun e w' => ∃ r : Int, e = .returned (.int .i64 r) ∧ (knw (ps.map TxnQ.e) x = true → 0 ≤ r) ∧ (knw (ps.map TxnQ.e) x = false → r < 0) ∧ Below w.heap.size w w' := by
  obtain ⟨a, cap, rfl⟩ := h.shape
  generalize hE : knw (ps.map TxnQ.e) x = E
  have HE : Hid (knw (ps.map TxnQ.e) x = E) := hE
  clear hE
  go_enter Try.func73, Try.ntmps73
  go_wp2
  go_loopw [8] (fun j wr => ∃ k : Nat, k ≤ ps.length ∧ j = .int .i64 k ∧ Below w.heap.size w wr ∧ Hid (∀ j, j < k → stF ((ps.map TxnQ.e).getD j txnNo') x = false)) (fun j _ => ps.length - (intOf j).toNat)
  case atStart => exact ⟨0, Nat.zero_le _, rfl, Below.refl _ _, fun j hj => absurd hj (Nat.not_lt_zero _)⟩
  case round =>
    obtain ⟨k, hk, rfl, hb, HA⟩ := hrel
    by_cases hlt : k < ps.length
    · obtain ⟨b', off, rfl, hbs, hc, hrd⟩ := (h.below hb).cell (by decide) k hlt
      have hc' : ∀ j x, (txnK.cells ps[k])[j]? = some x → wr.cell? ⟨b', off + k * 4 + j, none⟩ = some x := hc
      have c0 := hc' 0 (.int .i64 ps[k].i) rfl
      have c1 := hc' 1 (.int .i64 ps[k].s) rfl
      have c2 := hc' 2 (.int .i64 ps[k].q) rfl
      have c3 := hc' 3 (ps[k].va) rfl
      rw [Nat.add_zero] at c0
      have HY : Hid (stF (TxnQ.e ps[k]) x = true → E = true) := fun hx => by rw [← HE.out]; exact knw_yes k (by simpa using hlt) (by rw [txn_get ps k hlt]; exact hx)
      have HN : Hid (stF (TxnQ.e ps[k]) x = false → ∀ j, j < k + 1 → stF ((ps.map TxnQ.e).getD j txnNo') x = false) := fun hx j hj => by
        by_cases hjm : j = k
        · subst hjm
          rw [txn_get ps j hlt]
          exact hx
        · exact HA.out j (by omega)
      clear HA hc hc'
      generalize ps[k] = p at *
      obtain ⟨i, s, q, va', acts⟩ := p
      replace hrd : actK.At wr va' acts := hrd
      obtain ⟨aa, ac, rfl⟩ := hrd.shape
      dsimp only [TxnQ.e] at c0 c1 c2 c3 HY HN
      have hq := hasOne_any i s q aa acts.length ac acts x bx a' n' c' wr (hX.below hb)
      generalize stF ⟨i, s, q, acts⟩ x = S at *
      have hlti : (k : Int) < (ps.length : Int) := by omega
      go_wp2_with fail
      refine hq.mono ?_
      rintro e w2 ⟨rfl, hb2⟩
      replace hb := hb.trans (hb2.mono hb.size)
      clear hq c0 c1 c2 c3 hb2 hrd hbs
      cases S with
      | true =>
        have E1 : Hid (E = true) := HY.out rfl
        clear HY HN
        go_wp2
        go_ret
        refine ⟨_, rfl, fun _ => by omega, fun h0 => ?_, hb⟩
        rw [E1.out] at h0
        exact absurd h0 (by decide)
      | false =>
        have HR' : Hid _ := HN.out rfl
        clear HY HN
        go_wp2
        go_roundw
        case rel => exact ⟨k + 1, by omega, by go_num, hb, HR'.out⟩
        case measure => simp [intOf]; omega
    · have E1 : Hid (E = false) := by rw [← HE.out]; exact knw_no (fun j hj => HA.out j (by simp at hj; omega))
      have hlti : ¬ (k : Int) < (ps.length : Int) := by omega
      clear HA HE
      go_wp2
      go_ret
      refine ⟨_, rfl, fun h0 => ?_, fun _ => by omega, hb⟩
      rw [E1.out] at h0
      exact absurd h0 (by decide)

set_option maxHeartbeats 1000000 in
theorem containsFuncT_any (v : Value) (ps : List TxnQ) (x : TxnD) (bx : Nat) (a' : Option Addr) (n' c' : Nat) (w : World) (h : txnK.At w v ps) (hX : Blk w bx 35 #[.int .i64 x.id, .int .i64 x.session, .int .i64 x.seq, .slice a' n' c']) (hl : ps.length ≤ 1048576) :
    Calls Try.prog 51 #[v, .func (.func 52) #[] #[.pointer (some ⟨bx, 0, none⟩)]] w fun e w' => e = .returned (.bool (knw (ps.map TxnQ.e) x)) ∧ Below w.heap.size w w' := by
  have hq := indexFuncT_any v ps x bx a' n' c' w h hX hl
  obtain ⟨a, cap, rfl⟩ := h.shape
  generalize knw (ps.map TxnQ.e) x = E at *
  go_enter Try.func51, Try.ntmps51
  go_wp2_with fail
  refine hq.mono ?_
  rintro e w2 ⟨r, rfl, h1, h2, hb⟩
  cases E with
  | true =>
    have h0 : 0 ≤ r := h1 rfl
    clear h1 h2
    go_wp2
    go_ret
    exact ⟨by simp [h0], hb⟩
  | false =>
    have h0 : ¬ 0 ≤ r := by have := h2 rfl; omega
    clear h1 h2
    go_wp2
    go_ret
    exact ⟨by simp [h0], hb⟩

set_option maxHeartbeats 1000000 in
theorem implHasTxn_any (v : Value) (ps : List TxnQ) (x : TxnD) (a' : Option Addr) (n' c' : Nat) (w : World) (h : txnK.At w v ps) (hl : ps.length ≤ 1048576) :
    Calls Try.prog 20 #[v, .agg #[.int .i64 x.id, .int .i64 x.session, .int .i64 x.seq, .slice a' n' c']] w fun e w' => e = .returned (.bool (knw (ps.map TxnQ.e) x)) ∧ Below w.heap.size w w' := by
  have hB : Below w.heap.size w (w.alloc (.cells #[.int .i64 x.id, .int .i64 x.session, .int .i64 x.seq, .slice a' n' c'] 35)) := by go_grown
  have hq := containsFuncT_any v ps x w.heap.size a' n' c' _ (h.below hB) (Blk.new w 35 #[.int .i64 x.id, .int .i64 x.session, .int .i64 x.seq, .slice a' n' c']) hl
  have hmf : ∀ (fn : Fn) (first cap : Array Value) (w : World), (Instr.makeFunc fn first cap).run Try.prog w = .ok (.func fn first cap) w := fun _ _ _ _ => rfl
  obtain ⟨a, cap, rfl⟩ := h.shape
  generalize knw (ps.map TxnQ.e) x = E at *
  obtain ⟨xi, xs, xq, xa⟩ := x
  dsimp only at hB hq ⊢
  go_enter Try.func20, Try.ntmps20
  go_wp2_with fail
  refine hq.mono ?_
  rintro e w2 ⟨rfl, hb2⟩
  replace hB := hB.trans (hb2.mono hB.size)
  clear hmf
  go_wp2
  go_ret
  exact ⟨rfl, hB⟩

set_option maxHeartbeats 1000000 in
theorem specHasTxn_any (v : Value) (ps : List TxnQ) (x : TxnD) (a' : Option Addr) (n' c' : Nat) (w : World) (h : txnK.At w v ps) (hl : ps.length ≤ 1048576) :
    Calls Try.prog 21 #[v, .agg #[.int .i64 x.id, .int .i64 x.session, .int .i64 x.seq, .slice a' n' c']] w fun e w' => e = .returned (.bool (knw (ps.map TxnQ.e) x)) ∧ Below w.heap.size w w' := by
  have hB : Below w.heap.size w (w.alloc (.cells #[.int .i64 x.id, .int .i64 x.session, .int .i64 x.seq, .slice a' n' c'] 35)) := by go_grown
  have hq := l7Known_any v ps w.heap.size 0 x (.slice a' n' c') _ (h.below hB) (box4_new w _ _ _ _ 35) hl
  obtain ⟨a, cap, rfl⟩ := h.shape
  generalize knw (ps.map TxnQ.e) x = E at *
  obtain ⟨xi, xs, xq, xa⟩ := x
  dsimp only at hB hq ⊢
  go_enter Try.func21, Try.ntmps21
  go_wp2_with fail
  refine hq.mono ?_
  rintro e w2 ⟨rfl, hb2⟩
  replace hB := hB.trans (hb2.mono hB.size)
  go_wp2
  go_ret
  exact ⟨rfl, hB⟩

end Go.Proofs.Ytbdphnmkpkgdeaa

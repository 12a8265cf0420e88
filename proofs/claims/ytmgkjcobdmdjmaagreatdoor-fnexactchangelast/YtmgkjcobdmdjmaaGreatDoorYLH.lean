/- Texts joined, with what the law reaches alone. -/
import Derived.Test.YtmgkjcobdmdjmaaGreatDoorYLD
import Derived.Test.YtmgkjcobdmdjmaaGreatDoorYLG
import Derived.Test.YtmgkjcobdmdjmaaGreatDoorYLC
import Derived.Maps.AppendAt
namespace Go.Proofs.YtmgkjcobdmdjmaaGreatDoor
open Go.RowKit
open Go.BigFrame
set_option linter.unusedVariables false
set_option maxRecDepth 100000
set_option linter.unusedSimpArgs false
def slA' : Value → Option Addr
  | .slice a _ _ => a
  | _ => none

def slK' : Value → Nat
  | .slice _ _ k => k
  | _ => 0

def TxnQ.p' (q : TxnQ) : TxnP := ⟨q.e, slA' q.va, slK' q.va⟩

theorem TxnQ.p_cells' {w : World} {q : TxnQ} (h : actK.At w q.va q.acts) : q.p'.cells = txnK.cells q := by
  obtain ⟨a, c, e⟩ := h.shape
  show [_, _, _, _] = [_, _, _, _]
  simp only [TxnP.sl, TxnQ.p', TxnQ.e, e, slA', slK']

theorem txnsAt_of' {w : World} {v : Value} {ps : List TxnQ} (h : txnK.At w v ps) : TxnsAt w v (ps.map TxnQ.e) := by
  obtain ⟨a, cap, e, hL, hr⟩ := h
  refine ⟨a, cap, ps.map TxnQ.p', by rw [List.length_map]; exact e, by simp only [List.map_map]; rfl, ?_, ?_⟩
  · have e2 : txnCells (ps.map TxnQ.p') = txnK.row ps := by
      clear hL e
      induction ps with
      | nil => rfl
      | cons q r ih =>
        have h1 : q.p'.cells = txnK.cells q := TxnQ.p_cells' (hr q (by simp))
        have h2 := ih (fun p hp => hr p (List.mem_cons_of_mem _ hp))
        show q.p'.cells ++ txnCells (r.map TxnQ.p') = txnK.cells q ++ txnK.row r
        rw [h1, h2]
    rw [e2]
    exact hL
  · intro p hp
    obtain ⟨q, hq, rfl⟩ := List.mem_map.1 hp
    have h1 : actK.At w q.va q.acts := hr q hq
    obtain ⟨a', c', e', hl', _⟩ := h1
    show ActRow w (slA' q.va) q.acts
    rw [e']
    exact hl'

theorem sumA_of' (ps : List TxnQ) : sumA (ps.map TxnQ.e) = nmL TxnQ.n ps := by
  simp only [sumA, nmL, List.map_map]
  rfl

def rndNo : RoundE := ⟨[], []⟩

theorem rnd_get (rs : List RoundQ) (r : Nat) (hr : r < rs.length) : (rs.map RoundQ.e).getD r rndNo = RoundQ.e rs[r] := by simp [List.getD, hr]

end Go.Proofs.YtmgkjcobdmdjmaaGreatDoor
namespace Go.Proofs.YtmgkjcobdmdjmaaGreatDoor
open Go.RowKit
open Go.BigFrame
set_option linter.unusedVariables false
set_option maxRecDepth 100000
set_option linter.unusedSimpArgs false
set_option maxHeartbeats 4000000 in
theorem specSameTxns_any (v v' : Value) (xs ys : List TxnD) (w : World) (h : TxnsAt w v xs) (h' : TxnsAt w v' ys) (hl : xs.length + sumA xs ≤ 1048576) (hl' : ys.length + sumA ys ≤ 1048576) :
    Calls Tryz.prog 154 #[v, v'] w fun e w' => e = .returned (.bool (sameTs xs ys)) ∧ Below w.heap.size w w' := by
  obtain ⟨a, cap, rfl⟩ := h.shape
  obtain ⟨a', cap', rfl⟩ := h'.shape
  by_cases hlen : xs.length = ys.length
  case neg =>
    have E : sameTs xs ys = false := same_len (f := sameT) rfl (fun _ _ _ _ => rfl) (fun _ _ => rfl) (fun _ _ => rfl) xs ys hlen
    rw [E]
    have hd : ((xs.length : Int) != (ys.length : Int)) = true := by simp; omega
    go_enter Tryz.func154, Tryz.ntmps154
    go_wp2
    go_ret
    exact ⟨rfl, Below.refl _ _⟩
  case pos =>
    have hd : ((xs.length : Int) != (ys.length : Int)) = false := by simp [hlen]
    have HL : Hid (xs.length = ys.length) := hlen
    clear hlen
    go_enter Tryz.func154, Tryz.ntmps154
    go_wp2
    go_loopw [5] (fun i wr => ∃ k : Nat, k ≤ xs.length ∧ i = .int .i64 k ∧ Below w.heap.size w wr ∧ Hid (∀ j, j < k → sameT (xs.getD j txnNo) (ys.getD j txnNo) = true)) (fun i _ => xs.length - (intOf i).toNat)
    case atStart => exact ⟨0, Nat.zero_le _, rfl, Below.refl _ _, fun j hj => absurd hj (Nat.not_lt_zero _)⟩
    case round =>
      obtain ⟨k, hk, rfl, hb, HA⟩ := hrel
      by_cases hlt : k < xs.length
      · have hlt' : k < ys.length := by have := HL.out; omega
        obtain ⟨b, off, aa, cc, rfl, hbs, hc0, hc1, hc2, hc3, hA⟩ := (h.below hb).at k hlt
        obtain ⟨b', off', aa', cc', rfl, hbs', hd0, hd1, hd2, hd3, hA'⟩ := (h'.below hb).at k hlt'
        have hzl : (xs.getD k txnNo).acts.length ≤ sumA xs := mem_le_sumA (by simp [List.getD, hlt])
        have hzl' : (ys.getD k txnNo).acts.length ≤ sumA ys := mem_le_sumA (by simp [List.getD, hlt'])
        have hBx : Box4 wr b (off + k * 4) _ _ _ _ := ⟨hc0, hc1, hc2, hc3⟩
        have hBy : Box4 wr b' (off' + k * 4) _ _ _ _ := ⟨hd0, hd1, hd2, hd3⟩
        have hq := fun (w' : World) (hW : Below wr.heap.size wr w') => l2Same_any (xs.getD k txnNo) (ys.getD k txnNo) b (off + k * 4) b' (off' + k * 4) aa aa' cc cc' w' (hBx.below hW) (hBy.below hW) (hA.below hW) (hA'.below hW) (by omega) (by omega)
        clear hBx hBy hA hA' hc0 hc1 hc2 hc3 hd0 hd1 hd2 hd3
        cases hs : sameT (xs.getD k txnNo) (ys.getD k txnNo)
        case false =>
          have E : Hid (sameTs xs ys = false) := same_bad (f := sameT) txnNo (fun _ _ _ _ => rfl) xs ys k HL.out hlt hs
          rw [hs] at hq
          clear HA hs hzl hzl'
          have hW : Below wr.heap.size wr wr.drew := (Below.refl _ _).drew
          have hne : Nonempty (Lat wr) := ⟨⟨wr, Below.refl _ _⟩⟩
          go_wp2_with fail
          refine text_begin (S := fun w' => ∃ u : Lat wr, w' = u.val) (by kernel_rfl) ?_
          refine seg_range [(0, 6)] 2 (by kernel_rfl) (by kernel_rfl) (by kernel_rfl) (by kernel_rfl) (by kernel_rfl) ⟨⟨_, hW⟩, rfl⟩ ?_
          simp only [pickR, List.toList_toArray, List.flatMap_cons, List.flatMap_nil, List.drop_succ_cons, List.drop_zero, List.take_succ_cons, List.take_zero, List.cons_append, List.nil_append, List.append_nil]
          repeat go_big_quiet_step (fail)
          refine wpQuiet_nil ?_
          refine call_at 6 (some 23) 193 #[.pointer (some ⟨b, off + k * 4, none⟩), .pointer (some ⟨b', off' + k * 4, none⟩)] 1 (by kernel_rfl) (by kernel_rfl) (by kernel_rfl) (by kernel_rfl) (by kernel_rfl) ?_
          refine (hq _ hW).mono ?_
          rintro e w2 ⟨rfl, hb2⟩
          replace hW := hW.trans (hb2.mono hW.size)
          clear hb2 hq
          refine ⟨_, rfl, ⟨⟨_, hW⟩, rfl⟩, ?_⟩
          simp only [Act.put, List.setIfInBounds_toArray, List.set_cons_zero, List.set_cons_succ]
          refine seg_range [(7, 1)] 0 (by kernel_rfl) (by kernel_rfl) (by kernel_rfl) (by kernel_rfl) (by kernel_rfl) ⟨⟨_, hW⟩, rfl⟩ ?_
          simp only [pickR, List.toList_toArray, List.flatMap_cons, List.flatMap_nil, List.drop_succ_cons, List.drop_zero, List.take_succ_cons, List.take_zero, List.cons_append, List.nil_append, List.append_nil]
          repeat go_big_quiet_step (fail)
          refine wpQuiet_nil ?_
          refine text_end (by kernel_rfl) ?_
          replace hb := hb.trans (hW.mono hb.size)
          clear hW hne
          go_wp2
          go_ret
          rw [E.out]
          exact ⟨rfl, hb⟩
        case true =>
          have HB : Hid (∀ j, j < k + 1 → sameT (xs.getD j txnNo) (ys.getD j txnNo) = true) := by
            intro j hj
            by_cases hjk : j = k
            · subst hjk; exact hs
            · exact HA.out j (by omega)
          rw [hs] at hq
          clear HA hs hzl hzl'
          have hW : Below wr.heap.size wr wr.drew := (Below.refl _ _).drew
          have hne : Nonempty (Lat wr) := ⟨⟨wr, Below.refl _ _⟩⟩
          go_wp2_with fail
          refine text_begin (S := fun w' => ∃ u : Lat wr, w' = u.val) (by kernel_rfl) ?_
          refine seg_range [(0, 6)] 2 (by kernel_rfl) (by kernel_rfl) (by kernel_rfl) (by kernel_rfl) (by kernel_rfl) ⟨⟨_, hW⟩, rfl⟩ ?_
          simp only [pickR, List.toList_toArray, List.flatMap_cons, List.flatMap_nil, List.drop_succ_cons, List.drop_zero, List.take_succ_cons, List.take_zero, List.cons_append, List.nil_append, List.append_nil]
          repeat go_big_quiet_step (fail)
          refine wpQuiet_nil ?_
          refine call_at 6 (some 23) 193 #[.pointer (some ⟨b, off + k * 4, none⟩), .pointer (some ⟨b', off' + k * 4, none⟩)] 1 (by kernel_rfl) (by kernel_rfl) (by kernel_rfl) (by kernel_rfl) (by kernel_rfl) ?_
          refine (hq _ hW).mono ?_
          rintro e w2 ⟨rfl, hb2⟩
          replace hW := hW.trans (hb2.mono hW.size)
          clear hb2 hq
          refine ⟨_, rfl, ⟨⟨_, hW⟩, rfl⟩, ?_⟩
          simp only [Act.put, List.setIfInBounds_toArray, List.set_cons_zero, List.set_cons_succ]
          refine seg_range [(7, 1)] 0 (by kernel_rfl) (by kernel_rfl) (by kernel_rfl) (by kernel_rfl) (by kernel_rfl) ⟨⟨_, hW⟩, rfl⟩ ?_
          simp only [pickR, List.toList_toArray, List.flatMap_cons, List.flatMap_nil, List.drop_succ_cons, List.drop_zero, List.take_succ_cons, List.take_zero, List.cons_append, List.nil_append, List.append_nil]
          repeat go_big_quiet_step (fail)
          refine wpQuiet_nil ?_
          refine text_end (by kernel_rfl) ?_
          replace hb := hb.trans (hW.mono hb.size)
          clear hW hne
          go_wp2
          go_roundw
          case rel => exact ⟨k + 1, by omega, by go_num, hb, HB⟩
          case measure => simp [intOf]; omega
      · have E : Hid (sameTs xs ys = true) := same_all (f := sameT) txnNo rfl (fun _ _ _ _ => rfl) xs ys HL.out (fun j hj => HA.out j (by omega))
        clear HA
        go_wp2
        go_ret
        rw [E.out]
        exact ⟨rfl, hb⟩

end Go.Proofs.YtmgkjcobdmdjmaaGreatDoor
namespace Go.Proofs.YtmgkjcobdmdjmaaGreatDoor
open Go.RowKit
open Go.BigFrame
set_option linter.unusedVariables false
set_option maxRecDepth 100000
set_option linter.unusedSimpArgs false
def kpZ (x y : Int) : Bool := (x == 3) || (y == x)

theorem kps_bad {xs ys : List Int} (k : Nat) (hk : k < xs.length) (h : kpZ (xs.getD k 0) (ys.getD k 0) = false) : kps xs ys = false := by
  cases hc : kps xs ys with
  | false => rfl
  | true =>
    unfold kps at hc
    rw [List.all_eq_true] at hc
    have := hc k (List.mem_range.2 hk)
    rw [show ((xs.getD k 0 == 3) || (ys.getD k 0 == xs.getD k 0)) = kpZ (xs.getD k 0) (ys.getD k 0) from rfl, h] at this
    exact absurd this (by decide)

theorem kps_all {xs ys : List Int} (h : ∀ j, j < xs.length → kpZ (xs.getD j 0) (ys.getD j 0) = true) : kps xs ys = true := by
  unfold kps
  rw [List.all_eq_true]
  intro j hj
  exact h j (List.mem_range.1 hj)

def kpR (x y : RoundE) : Bool := kps x.rep y.rep && kps x.pro y.pro

def kpRs (xs ys : List RoundE) : Bool := (List.range xs.length).all (fun i => kpR (xs.getD i rndNo) (ys.getD i rndNo))

theorem kpRs_bad {xs ys : List RoundE} (k : Nat) (hk : k < xs.length) (h : kpR (xs.getD k rndNo) (ys.getD k rndNo) = false) : kpRs xs ys = false := by
  cases hc : kpRs xs ys with
  | false => rfl
  | true =>
    unfold kpRs at hc
    rw [List.all_eq_true] at hc
    have := hc k (List.mem_range.2 hk)
    rw [h] at this
    exact absurd this (by decide)

theorem kpRs_all {xs ys : List RoundE} (h : ∀ j, j < xs.length → kpR (xs.getD j rndNo) (ys.getD j rndNo) = true) : kpRs xs ys = true := by
  unfold kpRs
  rw [List.all_eq_true]
  intro j hj
  exact h j (List.mem_range.1 hj)

/-- An instance has all that another one has. -/
def grw (x y : InstE) : Bool := (!x.has || (y.has && sameTs x.batch y.batch)) && decide (x.rounds.length ≤ y.rounds.length) && kpRs x.rounds y.rounds && kps x.dec y.dec

set_option maxHeartbeats 2000000 in
theorem areKept_any (v v' : Value) (xs ys : List Int) (w : World) (h : intK.At w v xs) (h' : intK.At w v' ys) (hl : xs.length = 3) (hl' : ys.length = 3) :
    Calls Tryz.prog 151 #[v, v'] w fun e w' => e = .returned (.bool (kps xs ys)) ∧ Below w.heap.size w w' := by
  obtain ⟨a, cap, rfl⟩ := h.shape
  obtain ⟨a', cap', rfl⟩ := h'.shape
  have hR := (intK_at h).2
  have hR' := (intK_at h').2
  generalize hE : kps xs ys = E
  have HE : Hid (kps xs ys = E) := hE
  clear hE
  have HL : Hid (xs.length = 3 ∧ ys.length = 3) := ⟨hl, hl'⟩
  rw [hl, hl']
  clear hl hl' h h'
  go_enter Tryz.func151, Tryz.ntmps151
  go_wp2
  go_loop [9] (fun j => ∃ k : Nat, k ≤ 3 ∧ j = .int .i64 k ∧ Hid (∀ j, j < k → kpZ (xs.getD j 0) (ys.getD j 0) = true)) (fun j => 3 - (intOf j).toNat)
  case atStart => exact ⟨0, Nat.zero_le _, rfl, fun j hj => absurd hj (Nat.not_lt_zero _)⟩
  case round =>
    obtain ⟨k, hk, rfl, HA⟩ := hrel
    by_cases hlt : k < 3
    · obtain ⟨b, off, rfl, hbs, hc⟩ := hR k (by have := HL.out; omega)
      obtain ⟨b', off', rfl, hbs', hc'⟩ := hR' k (by have := HL.out; omega)
      have HY : Hid (kpZ (xs.getD k 0) (ys.getD k 0) = false → E = false) := fun hx => by rw [← HE.out]; exact kps_bad k (by have := HL.out; omega) hx
      have HN : Hid (kpZ (xs.getD k 0) (ys.getD k 0) = true → ∀ j, j < k + 1 → kpZ (xs.getD j 0) (ys.getD j 0) = true) := fun hx j hj => by
        by_cases hjm : j = k
        · subst hjm; exact hx
        · exact HA.out j (by omega)
      have hlti : (k : Int) < 3 := by omega
      clear HA
      generalize xs.getD k 0 = x at *
      generalize ys.getD k 0 = y at *
      by_cases hx3 : x = 3
      · have h1 : (x != 3) = false := by simp [hx3]
        have HR := HN.out (by unfold kpZ; simp [hx3])
        have HR' : Hid _ := HR
        clear HY HN HR hx3
        go_wp2
        go_round
        case rel => exact ⟨k + 1, by omega, by go_num, HR'.out⟩
        case measure => simp [intOf]; omega
      · have h1 : (x != 3) = true := by simpa using hx3
        by_cases hxy : x = y
        · have h2 : (x != y) = false := by simp [hxy]
          have HR := HN.out (by unfold kpZ; simp [hxy])
          have HR' : Hid _ := HR
          clear HY HN HR hx3 hxy
          go_wp2
          go_round
          case rel => exact ⟨k + 1, by omega, by go_num, HR'.out⟩
          case measure => simp [intOf]; omega
        · have h2 : (x != y) = true := by simpa using hxy
          have E1 : Hid (E = false) := HY.out (by unfold kpZ; simp [hx3]; exact fun e => hxy e.symm)
          clear HY HN hx3 hxy
          go_wp2
          go_ret
          exact ⟨by rw [E1.out]; rfl, Below.refl _ _⟩
    · have E1 : Hid (E = true) := by rw [← HE.out]; exact kps_all (fun j hj => HA.out j (by have := HL.out; omega))
      have hlti : ¬ (k : Int) < 3 := by omega
      clear HA HE
      go_wp2
      go_ret
      exact ⟨by rw [E1.out]; rfl, Below.refl _ _⟩

set_option maxHeartbeats 2000000 in
theorem l7Keeps_any (v v' : Value) (xs ys : List Int) (w : World) (h : intK.At w v xs) (h' : intK.At w v' ys) (hl : xs.length = 3) (hl' : ys.length = 3) :
    Calls Tryz.prog 155 #[v, v'] w fun e w' => e = .returned (.bool (kps xs ys)) ∧ Below w.heap.size w w' := by
  obtain ⟨a, cap, rfl⟩ := h.shape
  obtain ⟨a', cap', rfl⟩ := h'.shape
  have hR := (intK_at h).2
  have hR' := (intK_at h').2
  generalize hE : kps xs ys = E
  have HE : Hid (kps xs ys = E) := hE
  clear hE
  have HL : Hid (xs.length = 3 ∧ ys.length = 3) := ⟨hl, hl'⟩
  rw [hl, hl']
  clear hl hl' h h'
  go_enter Tryz.func155, Tryz.ntmps155
  go_wp2
  go_loopw [5] (fun j wr => ∃ k m : Nat, k ≤ 3 ∧ j = .int .i64 k ∧ wr = w.drewN m ∧ Hid (∀ j, j < k → kpZ (xs.getD j 0) (ys.getD j 0) = true)) (fun j _ => 3 - (intOf j).toNat)
  case atStart => exact ⟨0, 0, Nat.zero_le _, rfl, rfl, fun j hj => absurd hj (Nat.not_lt_zero _)⟩
  case round =>
    obtain ⟨k, m, hk, rfl, rfl, HA⟩ := hrel
    by_cases hlt : k < 3
    · obtain ⟨b, off, rfl, hbs, hc⟩ := hR k (by have := HL.out; omega)
      obtain ⟨b', off', rfl, hbs', hc'⟩ := hR' k (by have := HL.out; omega)
      have HY : Hid (kpZ (xs.getD k 0) (ys.getD k 0) = false → E = false) := fun hx => by rw [← HE.out]; exact kps_bad k (by have := HL.out; omega) hx
      have HN : Hid (kpZ (xs.getD k 0) (ys.getD k 0) = true → ∀ j, j < k + 1 → kpZ (xs.getD j 0) (ys.getD j 0) = true) := fun hx j hj => by
        by_cases hjm : j = k
        · subst hjm; exact hx
        · exact HA.out j (by omega)
      have hlti : (k : Int) < 3 := by omega
      clear HA
      generalize xs.getD k 0 = x at *
      generalize ys.getD k 0 = y at *
      by_cases hx3 : x = 3
      · have h1 : (x != 3) = false := by simp [hx3]
        have HR := HN.out (by unfold kpZ; simp [hx3])
        have HR' : Hid _ := HR
        clear HY HN HR hx3
        go_wp2
        go_quiet (fail)
        go_wp2
        go_roundw
        case rel => exact ⟨k + 1, _, by omega, by go_num, rfl, HR'.out⟩
        case measure => simp [intOf]; omega
      · have h1 : (x != 3) = true := by simpa using hx3
        by_cases hxy : x = y
        · have h2 : (y != x) = false := by simp [hxy]
          have HR := HN.out (by unfold kpZ; simp [hxy])
          have HR' : Hid _ := HR
          clear HY HN HR hx3 hxy
          go_wp2
          go_quiet (fail)
          go_wp2
          go_roundw
          case rel => exact ⟨k + 1, _, by omega, by go_num, rfl, HR'.out⟩
          case measure => simp [intOf]; omega
        · have h2 : (y != x) = true := by simpa using (fun e => hxy e.symm : ¬ y = x)
          have E1 : Hid (E = false) := HY.out (by unfold kpZ; simp [hx3]; exact fun e => hxy e.symm)
          clear HY HN hx3 hxy
          go_wp2
          go_quiet (fail)
          go_wp2
          go_ret
          rw [E1.out]
          exact ⟨rfl, ⟨rfl, rfl, rfl, Nat.le_refl _, fun _ _ => rfl⟩⟩
    · have E1 : Hid (E = true) := by rw [← HE.out]; exact kps_all (fun j hj => HA.out j (by have := HL.out; omega))
      have hlti : ¬ (k : Int) < 3 := by omega
      clear HA HE
      go_wp2
      go_ret
      rw [E1.out]
      exact ⟨rfl, ⟨rfl, rfl, rfl, Nat.le_refl _, fun _ _ => rfl⟩⟩

end Go.Proofs.YtmgkjcobdmdjmaaGreatDoor
namespace Go.Proofs.YtmgkjcobdmdjmaaGreatDoor
open Go.RowKit
set_option linter.unusedVariables false
set_option maxRecDepth 100000
set_option linter.unusedSimpArgs false
section
variable {P : Type} {K : Kind P} {w w' : World} {v v' : Value} {ps : List P} {p : P} {B : Nat}
theorem Kind.row_snoc (ps : List P) (p : P) : K.row (ps ++ [p]) = K.row ps ++ K.cells p := by simp [Kind.row]

theorem Kind.Own.snoc (h : K.Own w v ps) (hnd : (K.fp v ps).Nodup) (hlo : ∀ k ∈ K.fp v ps, B ≤ k) (hp : K.own w p) (hpn : (K.foot p).Nodup) (hpd : ∀ k ∈ K.foot p, k ∉ K.fp v ps) (hplo : ∀ k ∈ K.foot p, B ≤ k) (hB : B ≤ w.heap.size)
    (hrow : w'.ownsRow 0 K.ty K.size v' (ps.length + 1) (K.row ps ++ K.cells p)) (hg : w.grownBy w' v.ownBlock) (hat : v'.ownBlock = v.ownBlock ∨ v'.ownBlock = some w.heap.size) :
    K.Own w' v' (ps ++ [p]) ∧ (K.fp v' (ps ++ [p])).Nodup ∧ (∀ k ∈ K.fp v' (ps ++ [p]), B ≤ k) ∧ Out (blk v) w w' := by
  have hO : Out (blk v) w w' := Out.of_grown hg
  have hnd2 := List.nodup_append.1 hnd
  have hlt := h.lt
  have hplt := K.own_lt hp
  have hfe : (ps ++ [p]).flatMap K.foot = ps.flatMap K.foot ++ K.foot p := by simp
  refine ⟨⟨?_, ?_⟩, ?_, ?_, hO⟩
  · rw [List.length_append, List.length_singleton, Kind.row_snoc]
    exact hrow
  · intro q hq
    rcases List.mem_append.1 hq with hq | hq
    · exact K.own_out (h.2 q hq) hO (fun k hk hkb => hnd2.2.2 k hkb k (List.mem_flatMap.2 ⟨q, hq, hk⟩) rfl)
    · simp only [List.mem_singleton] at hq
      subst hq
      exact K.own_out hp hO (fun k hk hkb => hpd k hk (by simp only [Kind.fp, List.mem_append]; exact Or.inl hkb))
  · unfold Kind.fp
    rw [hfe]
    have hrest : (ps.flatMap K.foot ++ K.foot p).Nodup := List.nodup_append.2 ⟨hnd2.2.1, hpn, fun a ha b hb e => hpd b hb (by simp only [Kind.fp, List.mem_append]; exact Or.inr (e ▸ ha))⟩
    rcases hat with hat | hat
    · have e : blk v' = blk v := by unfold blk; rw [hat]
      rw [e]
      refine List.nodup_append.2 ⟨hnd2.1, hrest, fun a ha b hb e => ?_⟩
      subst e
      rcases List.mem_append.1 hb with hb | hb
      · exact hnd2.2.2 a ha a hb rfl
      · exact hpd a hb (by simp only [Kind.fp, List.mem_append]; exact Or.inl ha)
    · have e : blk v' = [w.heap.size] := by unfold blk; rw [hat]; rfl
      rw [e]
      refine List.nodup_append.2 ⟨by simp, hrest, fun a ha b hb e => ?_⟩
      simp only [List.mem_singleton] at ha
      subst e ha
      rcases List.mem_append.1 hb with hb | hb
      · have := hlt _ (show w.heap.size ∈ K.fp v ps by simp only [Kind.fp, List.mem_append]; exact Or.inr hb)
        omega
      · have := hplt _ hb
        omega
  · intro k hk
    unfold Kind.fp at hk
    rw [hfe] at hk
    rcases List.mem_append.1 hk with hk | hk
    · rcases hat with hat | hat
      · exact hlo k (by simp only [Kind.fp, List.mem_append]; left; unfold blk at hk ⊢; rw [hat] at hk; exact hk)
      · unfold blk at hk
        rw [hat] at hk
        simp only [Option.toList, List.mem_singleton] at hk
        omega
    · rcases List.mem_append.1 hk with hk | hk
      · exact hlo k (by simp only [Kind.fp, List.mem_append]; exact Or.inr hk)
      · exact hplo k hk

theorem Kind.own_nil (w : World) : K.Own w (.slice none 0 0) ([] : List P) ∧ (K.fp (.slice none 0 0) ([] : List P)) = [] := ⟨⟨World.ownsRow_nil _ _ _ _, fun p hp => by simp at hp⟩, by simp [Kind.fp, blk, Value.ownBlock]⟩

end
end Go.Proofs.YtmgkjcobdmdjmaaGreatDoor
namespace Go.Proofs.YtmgkjcobdmdjmaaGreatDoor
open Go.RowKit
open Go.BigFrame
set_option linter.unusedVariables false
set_option maxRecDepth 100000
set_option linter.unusedSimpArgs false
set_option maxHeartbeats 2000000 in
theorem cloneTxns_any (v : Value) (ps : List TxnQ) (w : World) (h : txnK.At w v ps) (hne : ∀ p ∈ ps, 0 < p.acts.length) (hl : ps.length + nmL TxnQ.n ps ≤ 1048576) :
    Calls Tryz.prog 98 #[v] w fun e w' => ∃ v' qs, e = .returned v' ∧ qs.map TxnQ.e = ps.map TxnQ.e ∧ txnK.Own w' v' qs ∧ (txnK.fp v' qs).Nodup ∧ (∀ k ∈ txnK.fp v' qs, w.heap.size ≤ k) ∧ Below w.heap.size w w' := by
  obtain ⟨a, cap, rfl⟩ := h.shape
  obtain ⟨i0, hi, hz0, hz1, hz2⟩ := info_parts infoTxn
  obtain ⟨hn1, hn2⟩ := Kind.own_nil (K := txnK) w
  have HN0 : Hid ((txnK.fp (.slice none 0 0) ([] : List TxnQ)).Nodup ∧ ∀ k ∈ txnK.fp (.slice none 0 0) ([] : List TxnQ), w.heap.size ≤ k) := by
    rw [hn2]
    exact ⟨by simp, by simp⟩
  clear hn2
  go_enter Tryz.func98, Tryz.ntmps98
  go_wp2
  go_loopw [3, 8] (fun v j wr => ∃ (k : Nat) (qs : List TxnQ), k ≤ ps.length ∧ j = .int .i64 k ∧ Hid (qs.map TxnQ.e = (ps.take k).map TxnQ.e) ∧ txnK.Own wr v qs ∧ Hid ((txnK.fp v qs).Nodup ∧ ∀ k ∈ txnK.fp v qs, w.heap.size ≤ k) ∧ Below w.heap.size w wr) (fun _ j _ => ps.length - (intOf j).toNat)
  case atStart => exact ⟨0, [], Nat.zero_le _, rfl, (rfl : _ = _), hn1, HN0, Below.refl _ _⟩
  case round =>
    clear HN0 hn1
    obtain ⟨k, qs, hk, rfl, HE, hO, HN, hb⟩ := hrel
    obtain ⟨sa, sc, rfl⟩ := hO.shape
    have HQL : Hid (qs.length = k) := by
      have := congrArg List.length HE.out
      rw [List.length_map, List.length_map, List.length_take] at this
      show qs.length = k
      omega
    by_cases hlt : k < ps.length
    · obtain ⟨b, off, rfl, hbs, hc, hrd⟩ := (h.below hb).cell (by decide) k hlt
      have hc' : ∀ j x, (txnK.cells ps[k])[j]? = some x → wr.cell? ⟨b, off + k * 4 + j, none⟩ = some x := hc
      have c0 := hc' 0 (.int .i64 ps[k].i) rfl
      have c1 := hc' 1 (.int .i64 ps[k].s) rfl
      have c2 := hc' 2 (.int .i64 ps[k].q) rfl
      have c3 := hc' 3 (ps[k].va) rfl
      have hzl := nm_le TxnQ.n ps k hlt
      have hpos := hne _ (List.getElem_mem hlt)
      have HPE : Hid (∀ p' : TxnQ, p'.e = TxnQ.e ps[k] → (qs ++ [p']).map TxnQ.e = (ps.take (k + 1)).map TxnQ.e) := fun p' hp' => by
        rw [List.take_succ_eq_append_getElem hlt, List.map_append, List.map_append, HE.out, List.map_singleton, List.map_singleton, hp']
      clear hc hc'
      generalize ps[k] = p at *
      obtain ⟨i, s, q, va, acts⟩ := p
      replace hrd : actK.At wr va acts := hrd
      replace hzl : acts.length ≤ nmL TxnQ.n ps := hzl
      obtain ⟨aa, ac, rfl⟩ := hrd.shape
      dsimp only at c0 c1 c2 c3 hpos
      obtain ⟨ab, ao, haa⟩ : ∃ ab ao, aa = some ⟨ab, ao, none⟩ := by
        rcases (actK_at hrd).2 with h0 | ⟨ab, ao, e, _⟩
        · have := actCells_length acts
          rw [h0] at this
          simp at this
          omega
        · exact ⟨ab, ao, e⟩
      subst haa
      have hbY : Below wr.heap.size wr (wr.alloc (.cells #[.int .i64 i, .int .i64 s, .int .i64 q, .slice (some ⟨ab, ao, none⟩) acts.length ac] 120)) := by go_grown
      have hcl := cloneTxn_any i s q ab ao ac acts _ ((actK_at hrd).2.below hbY) hpos (by omega)
      rw [Nat.add_zero] at c0
      replace hO := hO.below hbY
      replace hb := hb.trans (hbY.mono hb.size)
      clear HE hbY
      go_wp2_with fail
      clear c0 c1 c2 c3
      generalize wr.alloc (.cells #[.int .i64 i, .int .i64 s, .int .i64 q, .slice (some ⟨ab, ao, none⟩) acts.length ac] 120) = Y at *
      have hYs : w.heap.size ≤ Y.heap.size := hb.size
      refine hcl.mono ?_
      rintro e w2 ⟨a2, c2, rfl, ho2, hb2⟩
      have HLT := hO.lt
      replace hO := hO.below hb2
      replace hb := hb.trans (hb2.mono hb.size)
      obtain ⟨o2, hk2⟩ := own_zero ho2
      have hP : txnK.own w2 ⟨i, s, q, .slice a2 acts.length c2, acts⟩ := ⟨o2, fun _ _ => trivial⟩
      have hPlo : ∀ x ∈ txnK.foot ⟨i, s, q, .slice a2 acts.length c2, acts⟩, Y.heap.size ≤ x := fun x hx => hk2 x (by rw [← actK_fp (.slice a2 acts.length c2) acts]; exact hx)
      have hPn : (txnK.foot ⟨i, s, q, .slice a2 acts.length c2, acts⟩).Nodup := by
        show (actK.fp _ _).Nodup
        rw [actK_fp]; exact blk_nodup _
      have hbA : Below w2.heap.size w2 (w2.alloc (.cells #[.int .i64 i, .int .i64 s, .int .i64 q, .slice a2 acts.length c2] 120)) := by go_grown
      have hOA := hO.below hbA
      have hPA := txnK.own_out (F := []) hP (Out.of_below hbA) (fun _ _ => by simp)
      have hbB := hb.trans (hbA.mono hb.size)
      clear hcl ho2 hO hP hk2
      have hrow0 := hOA.1
      go_wp2_with (at_builtin; refine wpList_append_own_at _ rfl _ _ 24 rfl 0 120 i0 (.agg #[.int .i64 0, .int .i64 0, .int .i64 0, .slice none 0 0]) 4 48 Tryz.underlying24 hi hz0 hz1 hz2 rfl (by decide) _ qs.length (txnK.row qs) rfl hrow0 ⟨w2.heap.size, 0, none⟩ 1 1 [.int .i64 i, .int .i64 s, .int .i64 q, .slice a2 acts.length c2] rfl rfl ?c1 ?c2 ?c3 ?c4 ?c5 ?_)
      all_goals try (case c1 => intro j u hj; match j, hj with | 0, hj => simp at hj; subst hj; simp [Addr.add] | 1, hj => simp at hj; subst hj; simp [Addr.add] | 2, hj => simp at hj; subst hj; simp [Addr.add] | 3, hj => simp at hj; subst hj; simp [Addr.add])
      all_goals try (case c2 => intro u hu; simp at hu; rcases hu with rfl | rfl | rfl | rfl <;> rfl)
      all_goals try (case c3 => have := HQL.out; unfold maxLen; omega)
      all_goals try (case c4 => have := HQL.out; omega)
      all_goals try (case c5 => first | omega | simp)
      intro v' w5 hown hgrow hnil hat
      clear hnil hrow0
      rw [show w2.heap.size + 1 = (w2.alloc (.cells #[.int .i64 i, .int .i64 s, .int .i64 q, .slice a2 acts.length c2] 120)).heap.size from (World.size_alloc _ _).symm] at hat
      generalize hwA : w2.alloc (.cells #[.int .i64 i, .int .i64 s, .int .i64 q, .slice a2 acts.length c2] 120) = WA at *
      clear hwA
      have hsz : Y.heap.size ≤ WA.heap.size := by have := hb2.size; have := hbA.size; omega
      obtain ⟨hO5, hn5, hlo5, hou⟩ := hOA.snoc HN.out.1 HN.out.2 hPA hPn (fun x hx hx' => by have := HLT x hx'; have := hPlo x hx; omega) (fun x hx => by have := hPlo x hx; omega) hbB.size hown hgrow hat
      have hb5 : Below w.heap.size w w5 := Out.keep hbB hou hbB.size (fun x hx => HN.out.2 x (by simp only [Kind.fp, List.mem_append]; exact Or.inl hx))
      have HE5 : Hid ((qs ++ [(⟨i, s, q, .slice a2 acts.length c2, acts⟩ : TxnQ)]).map TxnQ.e = (ps.take (k + 1)).map TxnQ.e) := HPE.out _ rfl
      have HN5 : Hid ((txnK.fp v' (qs ++ [(⟨i, s, q, .slice a2 acts.length c2, acts⟩ : TxnQ)])).Nodup ∧ ∀ k ∈ txnK.fp v' (qs ++ [(⟨i, s, q, .slice a2 acts.length c2, acts⟩ : TxnQ)]), w.heap.size ≤ k) := ⟨hn5, hlo5⟩
      clear HPE HN HLT hPlo hPn hPA hOA hbB hown hgrow hat hou hn5 hlo5 hrd hb hbA hb2 hzl hpos
      go_wp2
      go_roundw
      case rel => exact ⟨k + 1, _, by omega, by go_num, HE5, hO5, HN5, hb5⟩
      case measure => simp [intOf]; omega
    · have hkl : k = ps.length := by omega
      subst hkl
      have hE := HE.out
      rw [List.take_length] at hE
      clear HE
      go_wp2
      go_ret
      exact ⟨_, qs, rfl, hE, hO, HN.out.1, HN.out.2, hb⟩

end Go.Proofs.YtmgkjcobdmdjmaaGreatDoor
namespace Go.Proofs.YtmgkjcobdmdjmaaGreatDoor
open Go.RowKit
open Go.BigFrame
set_option linter.unusedVariables false
set_option maxRecDepth 100000
set_option linter.unusedSimpArgs false
theorem intK_nodup (v : Value) (zs : List Int) : (intK.fp v zs).Nodup := by
  rw [intK_fp]; exact blk_nodup v

end Go.Proofs.YtmgkjcobdmdjmaaGreatDoor
namespace Go.Proofs.YtmgkjcobdmdjmaaGreatDoor
open Go.RowKit
open Go.BigFrame
set_option linter.unusedVariables false
set_option maxRecDepth 100000
set_option linter.unusedSimpArgs false
theorem out_row (w : World) (g : Nat) (cs : Array Value) : Out [g] w (w.setRow g cs) :=
  ⟨rfl, rfl, rfl, by rw [setRow_size]; exact Nat.le_refl _, fun k _ hn => setRow_other w g k cs (by simpa using hn)⟩

theorem sz_inst : (Tryz.prog.info? 28).map (·.size) = some 4 := by kernel_rfl

end Go.Proofs.YtmgkjcobdmdjmaaGreatDoor
namespace Go.Proofs.YtmgkjcobdmdjmaaGreatDoor
open Go.RowKit
open Go.BigFrame
set_option linter.unusedVariables false
set_option maxRecDepth 100000
set_option linter.unusedSimpArgs false
set_option maxHeartbeats 1000000 in
theorem l1Ints_own (b off cap : Nat) (zs : List Int) (w : World) (h : Row .i64 w (some ⟨b, off, none⟩) zs) (h0 : 0 < zs.length) (hl : zs.length ≤ 1048576) :
    Calls Tryz.prog 156 #[.slice (some ⟨b, off, none⟩) zs.length cap] w fun e w' => ∃ a c, e = .returned (.slice a zs.length c) ∧
      w'.ownsRow w.heap.size 2 1 (.slice a zs.length c) zs.length (zs.map iv) ∧ Below w.heap.size w w' := by
  obtain ⟨i0, hi, hz0, hz1, hz2⟩ := info_parts infoI6
  have hs := lies_src (Lies.below (lies_of_row h) (w' := w.alloc (.cells #[] 2)) (by go_grown))
  have hcl : (zs.map iv).length = zs.length * 1 := by simp
  have ho := World.ownsRow_lit (e := 2) (size := 1) w #[] 0 (Nat.le_refl _) (by decide) rfl
  have HS : Hid (∀ j u, (zs.map iv)[j]? = some u → _) := hs
  clear hs
  go_enter Tryz.func156, Tryz.ntmps156
  go_wp2_with (at_builtin; refine wpList_append_own _ rfl _ _ 26 rfl w.heap.size 2 i0 (.int .i64 0) 1 8 Tryz.underlying26 hi hz0 hz1 hz2 rfl (by decide) _ 0 [] rfl ho ⟨b, off, none⟩ zs.length cap (zs.map iv) rfl hcl HS.out ?c2 ?c3 ?c4 ?c5 ?_)
  all_goals try (case c2 => first | (intro u hu; obtain ⟨z, _, rfl⟩ := List.mem_map.1 hu; rfl) | (intro u hu; rfl))
  all_goals try (case c3 => unfold maxLen; omega)
  all_goals try (case c4 => omega)
  all_goals try (case c5 => simp)
  intro v' w2 hown hgrow _
  obtain ⟨a2, c2, rfl⟩ := own_shape hown
  have hb2 : Below w.heap.size w w2 := ((Below.refl _ _).alloc (Nat.le_refl _) _).grown hgrow (by simp) (fun k hk => by simp [Value.ownBlock] at hk; omega)
  try simp only [Nat.zero_add] at hown
  clear hgrow HS ho
  go_wp2
  go_ret
  exact ⟨a2, c2, rfl, by simpa using hown, hb2⟩

theorem l1Ints_any (v : Value) (zs : List Int) (w : World) (h : intK.At w v zs) (h0 : 0 < zs.length) (hl : zs.length ≤ 1048576) :
    Calls Tryz.prog 156 #[v] w fun e w' => ∃ a c, e = .returned (.slice a zs.length c) ∧ intK.Own w' (.slice a zs.length c) zs ∧ (∀ k ∈ intK.fp (.slice a zs.length c) zs, w.heap.size ≤ k) ∧ Below w.heap.size w w' := by
  obtain ⟨a, cap, rfl⟩ := h.shape
  have hR := (intK_at h).2
  obtain ⟨b, off, rfl, _⟩ := hR 0 h0
  refine (l1Ints_own b off cap zs w hR h0 hl).mono ?_
  rintro e w2 ⟨a2, c2, rfl, ho, hb⟩
  obtain ⟨O, G⟩ := list_own rfl ho
  exact ⟨a2, c2, rfl, O, G, hb⟩

set_option maxHeartbeats 2000000 in
theorem l2CopyAll_any (v : Value) (ps : List TxnQ) (w : World) (h : txnK.At w v ps) (hne : ∀ p ∈ ps, 0 < p.acts.length) (hl : ps.length + nmL TxnQ.n ps ≤ 1048576) :
    Calls Tryz.prog 143 #[v] w fun e w' => ∃ v' qs, e = .returned v' ∧ qs.map TxnQ.e = ps.map TxnQ.e ∧ txnK.Own w' v' qs ∧ (txnK.fp v' qs).Nodup ∧ (∀ k ∈ txnK.fp v' qs, w.heap.size ≤ k) ∧ Below w.heap.size w w' := by
  obtain ⟨a, cap, rfl⟩ := h.shape
  obtain ⟨i0, hi, hz0, hz1, hz2⟩ := info_parts infoTxn
  have ho := World.ownsRow_lit (e := 120) (size := 4) w #[] 0 (Nat.le_refl _) (by decide) rfl
  have hn1 : txnK.Own (w.alloc (.cells #[] 120)) (.slice (some ⟨w.heap.size, 0, none⟩) 0 0) ([] : List TxnQ) := ⟨(own_zero ho).1, fun p hp => by simp at hp⟩
  have hnb : Below w.heap.size w (w.alloc (.cells #[] 120)) := by go_grown
  have HN0 : Hid ((txnK.fp (.slice (some ⟨w.heap.size, 0, none⟩) 0 0) ([] : List TxnQ)).Nodup ∧ ∀ k ∈ txnK.fp (.slice (some ⟨w.heap.size, 0, none⟩) 0 0) ([] : List TxnQ), w.heap.size ≤ k) := by
    refine ⟨?_, ?_⟩
    · simp [Kind.fp, blk, Value.ownBlock]
    · simp [Kind.fp, blk, Value.ownBlock]
  clear ho
  go_enter Tryz.func143, Tryz.ntmps143
  go_wp2
  go_loopw [3, 4] (fun v j wr => ∃ (k : Nat) (qs : List TxnQ), k ≤ ps.length ∧ j = .int .i64 k ∧ Hid (qs.map TxnQ.e = (ps.take k).map TxnQ.e) ∧ txnK.Own wr v qs ∧ Hid ((txnK.fp v qs).Nodup ∧ ∀ k ∈ txnK.fp v qs, w.heap.size ≤ k) ∧ Below w.heap.size w wr) (fun _ j _ => ps.length - (intOf j).toNat)
  case atStart => exact ⟨0, [], Nat.zero_le _, rfl, (rfl : _ = _), hn1, HN0, hnb⟩
  case round =>
    clear HN0 hn1 hnb
    obtain ⟨k, qs, hk, rfl, HE, hO, HN, hb⟩ := hrel
    obtain ⟨sa, sc, rfl⟩ := hO.shape
    have HQL : Hid (qs.length = k) := by
      have := congrArg List.length HE.out
      rw [List.length_map, List.length_map, List.length_take] at this
      show qs.length = k
      omega
    by_cases hlt : k < ps.length
    · obtain ⟨b, off, rfl, hbs, hc, hrd⟩ := (h.below hb).cell (by decide) k hlt
      have hc' : ∀ j x, (txnK.cells ps[k])[j]? = some x → wr.cell? ⟨b, off + k * 4 + j, none⟩ = some x := hc
      have c0 := hc' 0 (.int .i64 ps[k].i) rfl
      have c1 := hc' 1 (.int .i64 ps[k].s) rfl
      have c2 := hc' 2 (.int .i64 ps[k].q) rfl
      have c3 := hc' 3 (ps[k].va) rfl
      have hzl := nm_le TxnQ.n ps k hlt
      have hpos := hne _ (List.getElem_mem hlt)
      have HPE : Hid (∀ p' : TxnQ, p'.e = TxnQ.e ps[k] → (qs ++ [p']).map TxnQ.e = (ps.take (k + 1)).map TxnQ.e) := fun p' hp' => by
        rw [List.take_succ_eq_append_getElem hlt, List.map_append, List.map_append, HE.out, List.map_singleton, List.map_singleton, hp']
      clear hc hc'
      generalize ps[k] = p at *
      obtain ⟨i, s, q, va, acts⟩ := p
      replace hrd : actK.At wr va acts := hrd
      replace hzl : acts.length ≤ nmL TxnQ.n ps := hzl
      obtain ⟨aa, ac, rfl⟩ := hrd.shape
      dsimp only at c0 c1 c2 c3 hpos
      obtain ⟨ab, ao, haa⟩ : ∃ ab ao, aa = some ⟨ab, ao, none⟩ := by
        rcases (actK_at hrd).2 with h0 | ⟨ab, ao, e, _⟩
        · have := actCells_length acts
          rw [h0] at this
          simp at this
          omega
        · exact ⟨ab, ao, e⟩
      subst haa
      have hcl := l2Copy_any i s q ab ao ac acts _ (actK_at hrd).2 hpos (by omega)
      rw [Nat.add_zero] at c0
      clear HE
      go_wp2_with fail
      clear c0 c1 c2 c3
      have hYs : w.heap.size ≤ wr.heap.size := hb.size
      refine hcl.mono ?_
      rintro e w2 ⟨a2, c2, rfl, ho2, hb2⟩
      have HLT := hO.lt
      replace hO := hO.below hb2
      replace hb := hb.trans (hb2.mono hb.size)
      obtain ⟨o2, hk2⟩ := own_zero ho2
      have hP : txnK.own w2 ⟨i, s, q, .slice a2 acts.length c2, acts⟩ := ⟨o2, fun _ _ => trivial⟩
      have hPlo : ∀ x ∈ txnK.foot ⟨i, s, q, .slice a2 acts.length c2, acts⟩, wr.heap.size ≤ x := fun x hx => hk2 x (by rw [← actK_fp (.slice a2 acts.length c2) acts]; exact hx)
      have hPn : (txnK.foot ⟨i, s, q, .slice a2 acts.length c2, acts⟩).Nodup := by
        show (actK.fp _ _).Nodup
        rw [actK_fp]; exact blk_nodup _
      have hbA : Below w2.heap.size w2 (w2.alloc (.cells #[.int .i64 i, .int .i64 s, .int .i64 q, .slice a2 acts.length c2] 120)) := by go_grown
      have hOA := hO.below hbA
      have hPA := txnK.own_out (F := []) hP (Out.of_below hbA) (fun _ _ => by simp)
      have hbB := hb.trans (hbA.mono hb.size)
      clear hcl ho2 hO hP hk2
      have hrow0 := hOA.1
      go_wp2_with (at_builtin; refine wpList_append_own_at _ rfl _ _ 24 rfl 0 120 i0 (.agg #[.int .i64 0, .int .i64 0, .int .i64 0, .slice none 0 0]) 4 48 Tryz.underlying24 hi hz0 hz1 hz2 rfl (by decide) _ qs.length (txnK.row qs) rfl hrow0 ⟨w2.heap.size, 0, none⟩ 1 1 [.int .i64 i, .int .i64 s, .int .i64 q, .slice a2 acts.length c2] rfl rfl ?c1 ?c2 ?c3 ?c4 ?c5 ?_)
      all_goals try (case c1 => intro j u hj; match j, hj with | 0, hj => simp at hj; subst hj; simp [Addr.add] | 1, hj => simp at hj; subst hj; simp [Addr.add] | 2, hj => simp at hj; subst hj; simp [Addr.add] | 3, hj => simp at hj; subst hj; simp [Addr.add])
      all_goals try (case c2 => intro u hu; simp at hu; rcases hu with rfl | rfl | rfl | rfl <;> rfl)
      all_goals try (case c3 => have := HQL.out; unfold maxLen; omega)
      all_goals try (case c4 => have := HQL.out; omega)
      all_goals try (case c5 => first | omega | simp)
      intro v' w5 hown hgrow hnil hat
      clear hnil hrow0
      rw [show w2.heap.size + 1 = (w2.alloc (.cells #[.int .i64 i, .int .i64 s, .int .i64 q, .slice a2 acts.length c2] 120)).heap.size from (World.size_alloc _ _).symm] at hat
      generalize hwA : w2.alloc (.cells #[.int .i64 i, .int .i64 s, .int .i64 q, .slice a2 acts.length c2] 120) = WA at *
      clear hwA
      have hsz : wr.heap.size ≤ WA.heap.size := by have := hb2.size; have := hbA.size; omega
      obtain ⟨hO5, hn5, hlo5, hou⟩ := hOA.snoc HN.out.1 HN.out.2 hPA hPn (fun x hx hx' => by have := HLT x hx'; have := hPlo x hx; omega) (fun x hx => by have := hPlo x hx; omega) hbB.size hown hgrow hat
      have hb5 : Below w.heap.size w w5 := Out.keep hbB hou hbB.size (fun x hx => HN.out.2 x (by simp only [Kind.fp, List.mem_append]; exact Or.inl hx))
      have HE5 : Hid ((qs ++ [(⟨i, s, q, .slice a2 acts.length c2, acts⟩ : TxnQ)]).map TxnQ.e = (ps.take (k + 1)).map TxnQ.e) := HPE.out _ rfl
      have HN5 : Hid ((txnK.fp v' (qs ++ [(⟨i, s, q, .slice a2 acts.length c2, acts⟩ : TxnQ)])).Nodup ∧ ∀ k ∈ txnK.fp v' (qs ++ [(⟨i, s, q, .slice a2 acts.length c2, acts⟩ : TxnQ)]), w.heap.size ≤ k) := ⟨hn5, hlo5⟩
      clear HPE HN HLT hPlo hPn hPA hOA hbB hown hgrow hat hou hn5 hlo5 hrd hb hbA hb2 hzl hpos
      go_wp2
      go_roundw
      case rel => exact ⟨k + 1, _, by omega, by go_num, HE5, hO5, HN5, hb5⟩
      case measure => simp [intOf]; omega
    · have hkl : k = ps.length := by omega
      subst hkl
      have hE := HE.out
      rw [List.take_length] at hE
      clear HE
      go_wp2
      go_ret
      exact ⟨_, qs, rfl, hE, hO, HN.out.1, HN.out.2, hb⟩

end Go.Proofs.YtmgkjcobdmdjmaaGreatDoor

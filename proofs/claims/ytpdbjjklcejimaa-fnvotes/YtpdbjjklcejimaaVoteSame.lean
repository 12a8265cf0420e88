/- SameVotes: the program's function and its model answer alike. No condition. -/
import Derived.Test.YtpdbjjklcejimaaV10
import Derived.Test.YtpdbjjklcejimaaTxnSame
import Derived.Laws.StructEq
namespace Go.Proofs.Ytpdbjjklcejimaa
open Go.RowKit
open Go.BigFrame
set_option linter.unusedVariables false
set_option linter.unusedSimpArgs false

def sameV (x y : VoteD) : Bool := (x.kind == y.kind) && ((x.round == y.round) && ((x.node == y.node) && (x.value == y.value)))
def sameVs : List VoteD → List VoteD → Bool
  | [], [] => true
  | x :: r, y :: s => sameV x y && sameVs r s
  | _, _ => false

theorem below_dN10 {B : Nat} {a w : World} (h : Below B a w) (n : Nat) : Below B a (w.drewN n) := ⟨h.os, h.tape, h.output, h.size, h.block⟩

theorem sameVs_refl (xs : List VoteD) : sameVs xs xs = true := by
  induction xs with
  | nil => rfl
  | cons x r ih => simp [sameVs, sameV, ih]

theorem sameVs_eq {xs ys : List VoteD} (h : sameVs xs ys = true) : xs = ys := by
  induction xs generalizing ys with
  | nil => cases ys with | nil => rfl | cons y s => simp [sameVs] at h
  | cons x r ih =>
    cases ys with
    | nil => simp [sameVs] at h
    | cons y s =>
      obtain ⟨x0, x1, x2, x3⟩ := x
      obtain ⟨y0, y1, y2, y3⟩ := y
      simp [sameVs, sameV] at h
      rw [ih h.2, h.1.1, h.1.2.1, h.1.2.2.1, h.1.2.2.2]

theorem eqVote_run (x0 x1 x2 x3 y0 y1 y2 y3 : Int) (w : World) : (binOp .neq 26 (.agg #[.int .i64 x0, .int .i64 x1, .int .i64 x2, .int .i64 x3]) (.agg #[.int .i64 y0, .int .i64 y1, .int .i64 y2, .int .i64 y3])).run Try.prog w = .ok (.bool (!sameV ⟨x0, x1, x2, x3⟩ ⟨y0, y1, y2, y3⟩)) w := by
  rw [run_neq_struct, run_equalIn_struct (P := Try.prog) w 9999 26 _ _ (by kernel_rfl) (by kernel_rfl)]
  have c1 : Try.prog.cellsOf 2 = 1 := by kernel_rfl
  cases h0 : (x0 == y0) <;> cases h1 : (x1 == y1) <;> cases h2 : (x2 == y2) <;> cases h3 : (x3 == y3) <;> simp [Program.fieldsOf, Try.underlying26, Op.eqFields, go_sem, Try.underlying2, h0, h1, h2, h3, sameV, c1]

set_option maxHeartbeats 2000000 in
theorem equalV_any (a a' : Option Addr) (cap cap' : Nat) (xs ys : List VoteD) (w : World) (h : VoteRow w a xs) (h' : VoteRow w a' ys) (hl : xs.length ≤ 1048576) (hl' : ys.length ≤ 1048576) :
    Calls Try.prog 49 #[.slice a xs.length cap, .slice a' ys.length cap'] w fun e w' => e = .returned (.bool (sameVs xs ys)) ∧ Below w.heap.size w w' := by
  by_cases hlen : xs.length = ys.length
  case neg =>
    have E : sameVs xs ys = false := same_len (f := sameV) rfl (fun _ _ _ _ => rfl) (fun _ _ => rfl) (fun _ _ => rfl) xs ys hlen
    rw [E]
    have hd : ((xs.length : Int) != (ys.length : Int)) = true := by simp; omega
    go_enter Try.func49, Try.ntmps49
    go_wp2
    go_ret
    exact ⟨rfl, Below.refl _ _⟩
  case pos =>
    have hd : ((xs.length : Int) != (ys.length : Int)) = false := by simp [hlen]
    have HL : Hid (xs.length = ys.length) := hlen
    clear hlen
    go_enter Try.func49, Try.ntmps49
    go_wp2
    go_loopw [13] (fun i wr => ∃ k m : Nat, k ≤ xs.length ∧ i = .int .i64 k ∧ wr = w.drewN m ∧ Hid (∀ j, j < k → sameV (xs.getD j voteNo) (ys.getD j voteNo) = true)) (fun i _ => xs.length - (intOf i).toNat)
    case atStart => exact ⟨0, 0, Nat.zero_le _, rfl, rfl, fun j hj => absurd hj (Nat.not_lt_zero _)⟩
    case round =>
      obtain ⟨k, m, hk, rfl, rfl, HA⟩ := hrel
      by_cases hlt : k < xs.length
      · have hlt' : k < ys.length := by have := HL.out; omega
        obtain ⟨b, off, rfl, hbs, hc0, hc1, hc2, hc3⟩ := h.at k hlt
        obtain ⟨b', off', rfl, hbs', hd0, hd1, hd2, hd3⟩ := h'.at k hlt'
        cases hs : sameV (xs.getD k voteNo) (ys.getD k voteNo)
        case false =>
          have E : Hid (sameVs xs ys = false) := same_bad (f := sameV) voteNo (fun _ _ _ _ => rfl) xs ys k HL.out hlt hs
          have hr := eqVote_run (xs.getD k voteNo).kind (xs.getD k voteNo).round (xs.getD k voteNo).node (xs.getD k voteNo).value (ys.getD k voteNo).kind (ys.getD k voteNo).round (ys.getD k voteNo).node (ys.getD k voteNo).value
          rw [show sameV ⟨(xs.getD k voteNo).kind, (xs.getD k voteNo).round, (xs.getD k voteNo).node, (xs.getD k voteNo).value⟩ ⟨(ys.getD k voteNo).kind, (ys.getD k voteNo).round, (ys.getD k voteNo).node, (ys.getD k voteNo).value⟩ = false from hs, Bool.not_false] at hr
          clear HA hs
          generalize xs.getD k voteNo = z at hc0 hc1 hc2 hc3 hr
          generalize ys.getD k voteNo = z' at hd0 hd1 hd2 hd3 hr
          go_wp2
          go_quiet (fail)
          go_wp2
          go_ret
          rw [E.out]
          exact ⟨rfl, below_dN10 (below_dN10 (Below.refl _ _) _) _⟩
        case true =>
          have HB : Hid (∀ j, j < k + 1 → sameV (xs.getD j voteNo) (ys.getD j voteNo) = true) := by
            intro j hj
            by_cases hjk : j = k
            · subst hjk; exact hs
            · exact HA.out j (by omega)
          have hr := eqVote_run (xs.getD k voteNo).kind (xs.getD k voteNo).round (xs.getD k voteNo).node (xs.getD k voteNo).value (ys.getD k voteNo).kind (ys.getD k voteNo).round (ys.getD k voteNo).node (ys.getD k voteNo).value
          rw [show sameV ⟨(xs.getD k voteNo).kind, (xs.getD k voteNo).round, (xs.getD k voteNo).node, (xs.getD k voteNo).value⟩ ⟨(ys.getD k voteNo).kind, (ys.getD k voteNo).round, (ys.getD k voteNo).node, (ys.getD k voteNo).value⟩ = true from hs, Bool.not_true] at hr
          clear HA hs
          generalize xs.getD k voteNo = z at hc0 hc1 hc2 hc3 hr
          generalize ys.getD k voteNo = z' at hd0 hd1 hd2 hd3 hr
          go_wp2
          go_quiet (fail)
          go_wp2
          go_roundw
          case rel => exact ⟨k + 1, _, by omega, by go_num, rfl, HB⟩
          case measure => simp [intOf]; omega
      · have E : Hid (sameVs xs ys = true) := same_all (f := sameV) voteNo rfl (fun _ _ _ _ => rfl) xs ys HL.out (fun j hj => HA.out j (by omega))
        clear HA
        go_wp2
        go_ret
        rw [E.out]
        exact ⟨rfl, below_dN10 (Below.refl _ _) _⟩

set_option maxHeartbeats 2000000 in
theorem specSameVotes_any (a a' : Option Addr) (cap cap' : Nat) (xs ys : List VoteD) (w : World) (h : VoteRow w a xs) (h' : VoteRow w a' ys) (hl : xs.length ≤ 1048576) (hl' : ys.length ≤ 1048576) :
    Calls Try.prog 27 #[.slice a xs.length cap, .slice a' ys.length cap'] w fun e w' => e = .returned (.bool (sameVs xs ys)) ∧ Below w.heap.size w w' := by
  by_cases hlen : xs.length = ys.length
  case neg =>
    have E : sameVs xs ys = false := same_len (f := sameV) rfl (fun _ _ _ _ => rfl) (fun _ _ => rfl) (fun _ _ => rfl) xs ys hlen
    rw [E]
    have hd : ((xs.length : Int) != (ys.length : Int)) = true := by simp; omega
    go_enter Try.func27, Try.ntmps27
    go_wp2
    go_ret
    exact ⟨rfl, Below.refl _ _⟩
  case pos =>
    have hd : ((xs.length : Int) != (ys.length : Int)) = false := by simp [hlen]
    have HL : Hid (xs.length = ys.length) := hlen
    clear hlen
    go_enter Try.func27, Try.ntmps27
    go_wp2
    go_loopw [5] (fun i wr => ∃ k m : Nat, k ≤ xs.length ∧ i = .int .i64 k ∧ wr = w.drewN m ∧ Hid (∀ j, j < k → sameV (xs.getD j voteNo) (ys.getD j voteNo) = true)) (fun i _ => xs.length - (intOf i).toNat)
    case atStart => exact ⟨0, 0, Nat.zero_le _, rfl, rfl, fun j hj => absurd hj (Nat.not_lt_zero _)⟩
    case round =>
      obtain ⟨k, m, hk, rfl, rfl, HA⟩ := hrel
      by_cases hlt : k < xs.length
      · have hlt' : k < ys.length := by have := HL.out; omega
        obtain ⟨b, off, rfl, hbs, hc0, hc1, hc2, hc3⟩ := h.at k hlt
        obtain ⟨b', off', rfl, hbs', hd0, hd1, hd2, hd3⟩ := h'.at k hlt'
        cases hs : sameV (xs.getD k voteNo) (ys.getD k voteNo)
        case false =>
          have E : Hid (sameVs xs ys = false) := same_bad (f := sameV) voteNo (fun _ _ _ _ => rfl) xs ys k HL.out hlt hs
          have hr := eqVote_run (xs.getD k voteNo).kind (xs.getD k voteNo).round (xs.getD k voteNo).node (xs.getD k voteNo).value (ys.getD k voteNo).kind (ys.getD k voteNo).round (ys.getD k voteNo).node (ys.getD k voteNo).value
          rw [show sameV ⟨(xs.getD k voteNo).kind, (xs.getD k voteNo).round, (xs.getD k voteNo).node, (xs.getD k voteNo).value⟩ ⟨(ys.getD k voteNo).kind, (ys.getD k voteNo).round, (ys.getD k voteNo).node, (ys.getD k voteNo).value⟩ = false from hs, Bool.not_false] at hr
          clear HA hs
          generalize xs.getD k voteNo = z at hc0 hc1 hc2 hc3 hr
          generalize ys.getD k voteNo = z' at hd0 hd1 hd2 hd3 hr
          go_wp2
          go_quiet (fail)
          go_wp2
          go_ret
          rw [E.out]
          exact ⟨rfl, below_dN10 (below_dN10 (Below.refl _ _) _) _⟩
        case true =>
          have HB : Hid (∀ j, j < k + 1 → sameV (xs.getD j voteNo) (ys.getD j voteNo) = true) := by
            intro j hj
            by_cases hjk : j = k
            · subst hjk; exact hs
            · exact HA.out j (by omega)
          have hr := eqVote_run (xs.getD k voteNo).kind (xs.getD k voteNo).round (xs.getD k voteNo).node (xs.getD k voteNo).value (ys.getD k voteNo).kind (ys.getD k voteNo).round (ys.getD k voteNo).node (ys.getD k voteNo).value
          rw [show sameV ⟨(xs.getD k voteNo).kind, (xs.getD k voteNo).round, (xs.getD k voteNo).node, (xs.getD k voteNo).value⟩ ⟨(ys.getD k voteNo).kind, (ys.getD k voteNo).round, (ys.getD k voteNo).node, (ys.getD k voteNo).value⟩ = true from hs, Bool.not_true] at hr
          clear HA hs
          generalize xs.getD k voteNo = z at hc0 hc1 hc2 hc3 hr
          generalize ys.getD k voteNo = z' at hd0 hd1 hd2 hd3 hr
          go_wp2
          go_quiet (fail)
          go_wp2
          go_roundw
          case rel => exact ⟨k + 1, _, by omega, by go_num, rfl, HB⟩
          case measure => simp [intOf]; omega
      · have E : Hid (sameVs xs ys = true) := same_all (f := sameV) voteNo rfl (fun _ _ _ _ => rfl) xs ys HL.out (fun j hj => HA.out j (by omega))
        clear HA
        go_wp2
        go_ret
        rw [E.out]
        exact ⟨rfl, below_dN10 (Below.refl _ _) _⟩

set_option maxHeartbeats 1000000 in
theorem implSameVotes_any (a a' : Option Addr) (cap cap' : Nat) (xs ys : List VoteD) (w : World) (h : VoteRow w a xs) (h' : VoteRow w a' ys) (hl : xs.length ≤ 1048576) (hl' : ys.length ≤ 1048576) :
    Calls Try.prog 29 #[.slice a xs.length cap, .slice a' ys.length cap'] w fun e w' => e = .returned (.bool (sameVs xs ys)) ∧ Below w.heap.size w w' := by
  have hq := fun w h h' => equalV_any a a' cap cap' xs ys w h h' hl hl'
  generalize sameVs xs ys = r at hq
  go_enter Try.func29, Try.ntmps29
  go_wp2_with fail
  refine (hq _ h h').mono ?_
  rintro e w' ⟨rfl, hb⟩
  go_wp2
  go_ret
  exact ⟨rfl, hb⟩

end Go.Proofs.Ytpdbjjklcejimaa

/- IsPrefix, of the program and of its model. No condition. -/
import Derived.Test.YticfbapipdhhmaaSm6
import Derived.Test.YticfbapipdhhmaaTxnSameT
namespace Go.Proofs.Yticfbapipdhhmaa
open Go.RowKit
open Go.BigFrame
set_option linter.unusedVariables false
set_option linter.unusedSimpArgs false

theorem Kind.At.take' {P : Type} {K : Kind P} {w : World} {a : Option Addr} {n cap : Nat} {ps : List P} (h : K.At w (.slice a n cap) ps) (m : Nat) (hm : m ≤ ps.length) : K.At w (.slice a m cap) (ps.take m) := by
  obtain ⟨a', c, e, hl, hr⟩ := h
  simp only [Value.slice.injEq] at e
  obtain ⟨rfl, _, rfl⟩ := e
  refine ⟨a, cap, by rw [List.length_take, Nat.min_eq_left hm], ?_, fun p hp => hr p (List.mem_of_mem_take hp)⟩
  have er : K.row ps = K.row (ps.take m) ++ K.row (ps.drop m) := by
    unfold Kind.row
    rw [← List.flatMap_append, List.take_append_drop]
  rcases hl with h0 | ⟨b, off, ha, hlt, hc⟩
  · left
    rw [er] at h0
    exact (List.append_eq_nil_iff.1 h0).1
  · right
    refine ⟨b, off, ha, hlt, fun j x hx => hc j x ?_⟩
    rw [er, List.getElem?_append_left (List.getElem?_eq_some_iff.1 hx).1]
    exact hx
theorem Kind.Own.cap' {P : Type} {K : Kind P} {w : World} {a : Option Addr} {n cap : Nat} {ps : List P} (h : K.Own w (.slice a n cap) ps) : n ≤ cap ∧ cap ≤ maxLen := by
  rcases h.1.2 with ⟨e, _⟩ | ⟨g, c, cur, e, _, _, h1, h2, _⟩
  · simp only [Value.slice.injEq] at e
    obtain ⟨_, rfl, rfl⟩ := e
    exact ⟨Nat.le_refl _, by decide⟩
  · simp only [Value.slice.injEq] at e
    obtain ⟨_, rfl, rfl⟩ := e
    exact ⟨h1, h2⟩
/-- The first ones. -/
def preT (xs ys : List TxnD) : Bool := decide (xs.length ≤ ys.length) && sameTs xs (ys.take xs.length)

set_option maxHeartbeats 2000000 in
theorem implBegin_any (v v' : Value) (xs ys : List TxnQ) (w : World) (h : txnK.At w v xs) (h' : txnK.Own w v' ys) (hl : xs.length + nmL TxnQ.n xs ≤ 1048576) (hl' : ys.length + nmL TxnQ.n ys ≤ 1048576) :
    Calls Try.prog 12 #[v, v', .func (.func 13) #[] #[]] w fun e w' => e = .returned (.bool (preT (xs.map TxnQ.e) (ys.map TxnQ.e))) ∧ Below w.heap.size w w' := by
  obtain ⟨a, cap, rfl⟩ := h.shape
  obtain ⟨a', cap', rfl⟩ := h'.shape
  obtain ⟨hc, hcm⟩ := h'.cap'
  unfold preT
  rw [List.length_map, List.length_map]
  by_cases hlen : xs.length ≤ ys.length
  · have hd : decide (xs.length ≤ ys.length) = true := decide_eq_true hlen
    rw [hd, Bool.true_and]
    have hT := h'.at.take' xs.length hlen
    have hn : nmL TxnQ.n (ys.take xs.length) ≤ nmL TxnQ.n ys := nmL_le TxnQ.n ys xs.length
    have hq := equalFunc_any (.slice a xs.length cap) (.slice a' xs.length cap') (xs.map TxnQ.e) ((ys.take xs.length).map TxnQ.e) w (txnsAt_of' h) (txnsAt_of' hT) (by rw [List.length_map, sumA_of']; omega) (by rw [List.length_map, sumA_of', List.length_take]; omega)
    rw [List.map_take] at hq
    generalize sameTs (xs.map TxnQ.e) ((ys.map TxnQ.e).take xs.length) = E at *
    have hle : (xs.length : Int) ≤ (ys.length : Int) := by omega
    have hlc : xs.length ≤ cap' := by omega
    have hlc' : (xs.length : Int) ≤ (cap' : Int) := by omega
    have hl0 : (0 : Int) ≤ (xs.length : Int) := by omega
    clear hT hn hd
    go_enter Try.func12, Try.ntmps12
    go_wp2_with fail
    refine hq.mono ?_
    rintro e w2 ⟨rfl, hb2⟩
    go_wp2
    go_ret
    exact ⟨rfl, hb2⟩
  · have hd : decide (xs.length ≤ ys.length) = false := decide_eq_false hlen
    rw [hd, Bool.false_and]
    have hle : ¬ (xs.length : Int) ≤ (ys.length : Int) := by omega
    clear hd
    go_enter Try.func12, Try.ntmps12
    go_wp2
    go_ret
    exact ⟨rfl, Below.refl _ _⟩

theorem implIsPrefix_any (v v' : Value) (xs ys : List TxnQ) (w : World) (h : txnK.At w v xs) (h' : txnK.Own w v' ys) (hl : xs.length + nmL TxnQ.n xs ≤ 1048576) (hl' : ys.length + nmL TxnQ.n ys ≤ 1048576) :
    Calls Try.prog 7 #[v, v'] w fun e w' => e = .returned (.bool (preT (xs.map TxnQ.e) (ys.map TxnQ.e))) ∧ Below w.heap.size w w' := by
  have hq := implBegin_any v v' xs ys w h h' hl hl'
  obtain ⟨a, cap, rfl⟩ := h.shape
  obtain ⟨a', cap', rfl⟩ := h'.shape
  generalize preT (xs.map TxnQ.e) (ys.map TxnQ.e) = E at *
  go_enter Try.func7, Try.ntmps7
  go_wp2_with fail
  refine hq.mono ?_
  rintro e w2 ⟨rfl, hb2⟩
  go_wp2
  go_ret
  exact ⟨rfl, hb2⟩

set_option maxHeartbeats 2000000 in
theorem l7Prefix_any (v v' : Value) (xs ys : List TxnQ) (w : World) (h : txnK.At w v xs) (h' : txnK.Own w v' ys) (hl : xs.length + nmL TxnQ.n xs ≤ 1048576) (hl' : ys.length + nmL TxnQ.n ys ≤ 1048576) :
    Calls Try.prog 10 #[v, v'] w fun e w' => e = .returned (.bool (preT (xs.map TxnQ.e) (ys.map TxnQ.e))) ∧ Below w.heap.size w w' := by
  obtain ⟨a, cap, rfl⟩ := h.shape
  obtain ⟨a', cap', rfl⟩ := h'.shape
  obtain ⟨hc, hcm⟩ := h'.cap'
  unfold preT
  rw [List.length_map, List.length_map]
  by_cases hlen : xs.length ≤ ys.length
  · have hd : decide (xs.length ≤ ys.length) = true := decide_eq_true hlen
    rw [hd, Bool.true_and]
    have hT := h'.at.take' xs.length hlen
    have hn : nmL TxnQ.n (ys.take xs.length) ≤ nmL TxnQ.n ys := nmL_le TxnQ.n ys xs.length
    have hq := specSameTxns_any (.slice a xs.length cap) (.slice a' xs.length cap') (xs.map TxnQ.e) ((ys.take xs.length).map TxnQ.e) w (txnsAt_of' h) (txnsAt_of' hT) (by rw [List.length_map, sumA_of']; omega) (by rw [List.length_map, sumA_of', List.length_take]; omega)
    rw [List.map_take] at hq
    generalize sameTs (xs.map TxnQ.e) ((ys.map TxnQ.e).take xs.length) = E at *
    have hle : (xs.length : Int) ≤ (ys.length : Int) := by omega
    have hlc : xs.length ≤ cap' := by omega
    have hlc' : (xs.length : Int) ≤ (cap' : Int) := by omega
    have hl0 : (0 : Int) ≤ (xs.length : Int) := by omega
    clear hT hn hd
    go_enter Try.func10, Try.ntmps10
    go_wp2_with fail
    refine hq.mono ?_
    rintro e w2 ⟨rfl, hb2⟩
    go_wp2
    go_ret
    exact ⟨rfl, hb2⟩
  · have hd : decide (xs.length ≤ ys.length) = false := decide_eq_false hlen
    rw [hd, Bool.false_and]
    have hle : ¬ (xs.length : Int) ≤ (ys.length : Int) := by omega
    clear hd
    go_enter Try.func10, Try.ntmps10
    go_wp2
    go_ret
    exact ⟨rfl, Below.refl _ _⟩

theorem specIsPrefix_any (v v' : Value) (xs ys : List TxnQ) (w : World) (h : txnK.At w v xs) (h' : txnK.Own w v' ys) (hl : xs.length + nmL TxnQ.n xs ≤ 1048576) (hl' : ys.length + nmL TxnQ.n ys ≤ 1048576) :
    Calls Try.prog 5 #[v, v'] w fun e w' => e = .returned (.bool (preT (xs.map TxnQ.e) (ys.map TxnQ.e))) ∧ Below w.heap.size w w' := by
  have hq := l7Prefix_any v v' xs ys w h h' hl hl'
  obtain ⟨a, cap, rfl⟩ := h.shape
  obtain ⟨a', cap', rfl⟩ := h'.shape
  generalize preT (xs.map TxnQ.e) (ys.map TxnQ.e) = E at *
  go_enter Try.func5, Try.ntmps5
  go_wp2_with fail
  refine hq.mono ?_
  rintro e w2 ⟨rfl, hb2⟩
  go_wp2
  go_ret
  exact ⟨rfl, hb2⟩

end Go.Proofs.Yticfbapipdhhmaa

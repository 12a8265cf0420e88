/- What the helpers of the laws do with answers that hold a list of transactions. No condition. -/
import Derived.Test.YtkkdjgiencilbaaKTh
import Derived.Test.YtkkdjgiencilbaaBlk5
namespace Go.Proofs.Ytkkdjgiencilbaa
open Go.RowKit
open Go.BigFrame
set_option linter.unusedVariables false
set_option linter.unusedSimpArgs false

theorem nmTxn_le (ps : List TxnQ) : nmL nmTxn ps ≤ 3 * (ps.length + nmL TxnQ.n ps) := by
  induction ps with
  | nil => simp [nmL]
  | cons p r ih =>
    simp only [nmL, List.map_cons, List.sum_cons, List.length_cons] at ih ⊢
    simp only [nmTxn, TxnQ.n] at ih ⊢
    omega
theorem txns_n {qs ps : List TxnQ} (h : qs.map TxnQ.e = ps.map TxnQ.e) : qs.length + nmL TxnQ.n qs = ps.length + nmL TxnQ.n ps := by
  have t1 : qs.length = ps.length := by simpa using congrArg List.length h
  have t2 : nmL TxnQ.n qs = nmL TxnQ.n ps := by
    have := congrArg (fun l => nmL (fun d : TxnD => d.acts.length) l) h
    simp only [nmL, List.map_map] at this
    exact this
  omega

set_option maxHeartbeats 1000000 in
theorem eqTXR_k (c : Int) (v v' : Value) (ps qs : List TxnQ) (w : World) (h : txnK.At w v ps) (h' : txnK.At w v' qs) (he : ps.map TxnQ.e = qs.map TxnQ.e) (hl : (ps.length + nmL TxnQ.n ps) ≤ 1048576) :
    Calls Try.prog 21 #[.agg #[.int .i64 c, v], .agg #[.int .i64 c, v']] w fun e w' => e = .returned (.bool true) ∧ Below w.heap.size w w' := by
  have hq := fun w h1 h2 => eqTxns_k v v' ps qs w h1 h2 he hl
  clear he
  obtain ⟨a, k0, rfl⟩ := h.shape
  obtain ⟨a', k0', rfl⟩ := h'.shape
  have hB : Below w.heap.size w ((w.alloc (.cells #[.int .i64 c, .slice a ps.length k0] 56)).alloc (.cells #[.int .i64 c, .slice a' qs.length k0'] 56)) := by go_grown
  have n0 : (c != c) = false := by simp
  go_enter Try.func21, Try.ntmps21
  go_wp2_with fail
  generalize (w.alloc (.cells #[.int .i64 c, .slice a ps.length k0] 56)).alloc (.cells #[.int .i64 c, .slice a' qs.length k0'] 56) = W at *
  refine (hq W (h.below hB) (h'.below hB)).mono ?_
  rintro e w1 ⟨rfl, hb⟩
  replace hB := hB.trans (hb.mono hB.size)
  go_wp2
  go_ret
  exact ⟨rfl, hB⟩

set_option maxHeartbeats 1000000 in
theorem markTXR_k (c : Int) (v : Value) (ps : List TxnQ) (k : Int) (w : World) (h : txnK.Own w v ps) (hnd : (txnK.fp v ps).Nodup) (hl : (ps.length + nmL TxnQ.n ps) ≤ 1048576) (h0 : 0 ≤ k) (h1 : k + (nmL nmTxn ps : Int) ≤ 1099511627776) :
    Calls Try.prog 24 #[.agg #[.int .i64 c, v], .int .i64 k] w fun e w' => e = .returned (.int .i64 (k + (nmL nmTxn ps : Int))) ∧ txnK.Own w' v (mkL mkTxn nmTxn k ps) ∧ Out (txnK.fp v ps) w w' := by
  have hq := fun w h => markTxns_k v ps k w h hnd hl h0 h1
  obtain ⟨a, k0, rfl⟩ := h.shape
  have hB : Below w.heap.size w (w.alloc (.cells #[.int .i64 c, .slice a ps.length k0] 56)) := by go_grown
  generalize (nmL nmTxn ps : Int) = M at *
  go_enter Try.func24, Try.ntmps24
  go_wp2_with fail
  generalize w.alloc (.cells #[.int .i64 c, .slice a ps.length k0] 56) = W at *
  refine (hq W (h.below hB)).mono ?_
  rintro e w1 ⟨rfl, ho, hu⟩
  have HU := (Out.of_below (F := txnK.fp (.slice a ps.length k0) ps) hB).trans hu
  clear hB hu
  go_wp2
  go_ret
  exact ⟨rfl, ho, HU⟩

set_option maxHeartbeats 1000000 in
theorem heldTXR_k (c : Int) (v : Value) (ps : List TxnQ) (k : Int) (w : World) (h : txnK.At w v (mkL mkTxn nmTxn k ps)) (hl : (ps.length + nmL TxnQ.n ps) ≤ 1048576) (h0 : 0 ≤ k) (h1 : k + (nmL nmTxn ps : Int) ≤ 1099511627776) :
    Calls Try.prog 25 #[.agg #[.int .i64 c, v], .int .i64 k] w fun e w' => e = .returned (.int .i64 (k + (nmL nmTxn ps : Int))) ∧ Below w.heap.size w w' := by
  have hq := fun w h => heldTxns_k v ps k w h hl h0 h1
  obtain ⟨a, k0, rfl⟩ := h.shape
  rw [mkL_length] at h hq ⊢
  have hB : Below w.heap.size w (w.alloc (.cells #[.int .i64 c, .slice a ps.length k0] 56)) := by go_grown
  generalize hM : (nmL nmTxn ps : Int) = M at *
  have hn : ¬ (k + M < 0) := by omega
  clear hM
  go_enter Try.func25, Try.ntmps25
  go_wp2_with fail
  generalize w.alloc (.cells #[.int .i64 c, .slice a ps.length k0] 56) = W at *
  refine (hq W (h.below hB)).mono ?_
  rintro e w1 ⟨rfl, hb⟩
  replace hB := hB.trans (hb.mono hB.size)
  go_wp2
  go_ret
  exact ⟨rfl, hB⟩

end Go.Proofs.Ytkkdjgiencilbaa

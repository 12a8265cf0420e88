/- What the helpers of the laws do with answers that hold a list of transactions or of instances: compare, mark, held. No condition. -/
import Derived.Test.YtmgkjcobdmdjmaaGreatDoorKIsh
import Derived.Test.YtmgkjcobdmdjmaaGreatDoorGH
namespace Go.Proofs.YtmgkjcobdmdjmaaGreatDoor
open Go.RowKit
open Go.BigFrame
set_option linter.unusedVariables false
set_option maxRecDepth 100000
set_option linter.unusedSimpArgs false

theorem nmInsS_le (ps : List InstQ) : nmL nmInsS ps ≤ 3 * (ps.length + nmL InstQ.n ps) := by
  induction ps with
  | nil => simp [nmL]
  | cons p r ih =>
    have h1 := nmTxn_le p.batch
    have h2 := nmRound_le p.rounds
    simp only [nmL, List.map_cons, List.sum_cons, List.length_cons] at ih ⊢
    simp only [nmInsS, InstQ.n] at ih ⊢
    simp only [nmL] at h1 h2 ih ⊢
    omega
theorem insts_n {qs ps : List InstQ} (h : qs.map InstQ.e = ps.map InstQ.e) : qs.length + nmL InstQ.n qs = ps.length + nmL InstQ.n ps := by
  induction qs generalizing ps with
  | nil =>
    cases ps with
    | nil => rfl
    | cons p r => simp at h
  | cons q s ih =>
    cases ps with
    | nil => simp at h
    | cons p r =>
      simp only [List.map_cons, List.cons.injEq] at h
      have h1 := inst_n h.1
      have h2 := ih h.2
      simp only [nmL, List.map_cons, List.sum_cons, List.length_cons] at h2 ⊢
      omega
theorem txns_n {qs ps : List TxnQ} (h : qs.map TxnQ.e = ps.map TxnQ.e) : qs.length + nmL TxnQ.n qs = ps.length + nmL TxnQ.n ps := by
  have t1 : qs.length = ps.length := by simpa using congrArg List.length h
  have t2 : nmL TxnQ.n qs = nmL TxnQ.n ps := by
    have := congrArg (fun l => nmL (fun d : TxnD => d.acts.length) l) h
    simp only [nmL, List.map_map] at this
    exact this
  omega

set_option maxHeartbeats 1000000 in
theorem eqTXR_k (c : Int) (v v' : Value) (ps qs : List TxnQ) (w : World) (h : txnK.At w v ps) (h' : txnK.At w v' qs) (he : ps.map TxnQ.e = qs.map TxnQ.e) (hl : (ps.length + nmL TxnQ.n ps) ≤ 1048576) :
    Calls Tryz.prog 42 #[.agg #[.int .i64 c, v], .agg #[.int .i64 c, v']] w fun e w' => e = .returned (.bool true) ∧ Below w.heap.size w w' := by
  have hq := fun w h1 h2 => eqTxns_k v v' ps qs w h1 h2 he hl
  clear he
  obtain ⟨a, k0, rfl⟩ := h.shape
  obtain ⟨a', k0', rfl⟩ := h'.shape
  have hB : Below w.heap.size w ((w.alloc (.cells #[.int .i64 c, .slice a ps.length k0] 60)).alloc (.cells #[.int .i64 c, .slice a' qs.length k0'] 60)) := by go_grown
  have n0 : (c != c) = false := by simp
  go_enter Tryz.func42, Tryz.ntmps42
  go_wp2_with fail
  generalize (w.alloc (.cells #[.int .i64 c, .slice a ps.length k0] 60)).alloc (.cells #[.int .i64 c, .slice a' qs.length k0'] 60) = W at *
  refine (hq W (h.below hB) (h'.below hB)).mono ?_
  rintro e w1 ⟨rfl, hb⟩
  replace hB := hB.trans (hb.mono hB.size)
  go_wp2
  go_ret
  exact ⟨rfl, hB⟩

set_option maxHeartbeats 1000000 in
theorem markTXR_k (c : Int) (v : Value) (ps : List TxnQ) (k : Int) (w : World) (h : txnK.Own w v ps) (hnd : (txnK.fp v ps).Nodup) (hl : (ps.length + nmL TxnQ.n ps) ≤ 1048576) (h0 : 0 ≤ k) (h1 : k + (nmL nmTxn ps : Int) ≤ 1099511627776) :
    Calls Tryz.prog 44 #[.agg #[.int .i64 c, v], .int .i64 k] w fun e w' => e = .returned (.int .i64 (k + (nmL nmTxn ps : Int))) ∧ txnK.Own w' v (mkL mkTxn nmTxn k ps) ∧ Out (txnK.fp v ps) w w' := by
  have hq := fun w h => markTxns_k v ps k w h hnd hl h0 h1
  obtain ⟨a, k0, rfl⟩ := h.shape
  have hB : Below w.heap.size w (w.alloc (.cells #[.int .i64 c, .slice a ps.length k0] 60)) := by go_grown
  generalize (nmL nmTxn ps : Int) = M at *
  go_enter Tryz.func44, Tryz.ntmps44
  go_wp2_with fail
  generalize w.alloc (.cells #[.int .i64 c, .slice a ps.length k0] 60) = W at *
  refine (hq W (h.below hB)).mono ?_
  rintro e w1 ⟨rfl, ho, hu⟩
  have HU := (Out.of_below (F := txnK.fp (.slice a ps.length k0) ps) hB).trans hu
  clear hB hu
  go_wp2
  go_ret
  exact ⟨rfl, ho, HU⟩

set_option maxHeartbeats 1000000 in
theorem heldTXR_k (c : Int) (v : Value) (ps : List TxnQ) (k : Int) (w : World) (h : txnK.At w v (mkL mkTxn nmTxn k ps)) (hl : (ps.length + nmL TxnQ.n ps) ≤ 1048576) (h0 : 0 ≤ k) (h1 : k + (nmL nmTxn ps : Int) ≤ 1099511627776) :
    Calls Tryz.prog 45 #[.agg #[.int .i64 c, v], .int .i64 k] w fun e w' => e = .returned (.int .i64 (k + (nmL nmTxn ps : Int))) ∧ Below w.heap.size w w' := by
  have hq := fun w h => heldTxns_k v ps k w h hl h0 h1
  obtain ⟨a, k0, rfl⟩ := h.shape
  rw [mkL_length] at h hq ⊢
  have hB : Below w.heap.size w (w.alloc (.cells #[.int .i64 c, .slice a ps.length k0] 60)) := by go_grown
  generalize hM : (nmL nmTxn ps : Int) = M at *
  have hn : ¬ (k + M < 0) := by omega
  clear hM
  go_enter Tryz.func45, Tryz.ntmps45
  go_wp2_with fail
  generalize w.alloc (.cells #[.int .i64 c, .slice a ps.length k0] 60) = W at *
  refine (hq W (h.below hB)).mono ?_
  rintro e w1 ⟨rfl, hb⟩
  replace hB := hB.trans (hb.mono hB.size)
  go_wp2
  go_ret
  exact ⟨rfl, hB⟩

set_option maxHeartbeats 1000000 in
theorem eqORR_k (c : Int) (v v' : Value) (ps qs : List InstQ) (w : World) (h : instK.At w v ps) (h' : instK.At w v' qs) (he : ps.map InstQ.e = qs.map InstQ.e) (hl : (ps.length + nmL InstQ.n ps) ≤ 1048576) :
    Calls Tryz.prog 48 #[.agg #[.int .i64 c, v], .agg #[.int .i64 c, v']] w fun e w' => e = .returned (.bool true) ∧ Below w.heap.size w w' := by
  have hq := fun w h1 h2 => eqInstances_k v v' ps qs w h1 h2 he hl
  clear he
  obtain ⟨a, k0, rfl⟩ := h.shape
  obtain ⟨a', k0', rfl⟩ := h'.shape
  have hB : Below w.heap.size w ((w.alloc (.cells #[.int .i64 c, .slice a ps.length k0] 53)).alloc (.cells #[.int .i64 c, .slice a' qs.length k0'] 53)) := by go_grown
  have n0 : (c != c) = false := by simp
  go_enter Tryz.func48, Tryz.ntmps48
  go_wp2_with fail
  generalize (w.alloc (.cells #[.int .i64 c, .slice a ps.length k0] 53)).alloc (.cells #[.int .i64 c, .slice a' qs.length k0'] 53) = W at *
  refine (hq W (h.below hB) (h'.below hB)).mono ?_
  rintro e w1 ⟨rfl, hb⟩
  replace hB := hB.trans (hb.mono hB.size)
  go_wp2
  go_ret
  exact ⟨rfl, hB⟩

set_option maxHeartbeats 1000000 in
theorem markORR_k (c : Int) (v : Value) (ps : List InstQ) (k : Int) (w : World) (h : instK.Own w v ps) (hnd : (instK.fp v ps).Nodup) (hl : (ps.length + nmL InstQ.n ps) ≤ 1048576) (h0 : 0 ≤ k) (h1 : k + (nmL nmInsS ps : Int) ≤ 1099511627776) :
    Calls Tryz.prog 49 #[.agg #[.int .i64 c, v], .int .i64 k] w fun e w' => e = .returned (.int .i64 (k + (nmL nmInsS ps : Int))) ∧ instK.Own w' v (mkL mkInsS nmInsS k ps) ∧ Out (instK.fp v ps) w w' := by
  have hq := fun w h => markInstances_k v ps k w h hnd hl h0 h1
  obtain ⟨a, k0, rfl⟩ := h.shape
  have hB : Below w.heap.size w (w.alloc (.cells #[.int .i64 c, .slice a ps.length k0] 53)) := by go_grown
  generalize (nmL nmInsS ps : Int) = M at *
  go_enter Tryz.func49, Tryz.ntmps49
  go_wp2_with fail
  generalize w.alloc (.cells #[.int .i64 c, .slice a ps.length k0] 53) = W at *
  refine (hq W (h.below hB)).mono ?_
  rintro e w1 ⟨rfl, ho, hu⟩
  have HU := (Out.of_below (F := instK.fp (.slice a ps.length k0) ps) hB).trans hu
  clear hB hu
  go_wp2
  go_ret
  exact ⟨rfl, ho, HU⟩

set_option maxHeartbeats 1000000 in
theorem heldORR_k (c : Int) (v : Value) (ps : List InstQ) (k : Int) (w : World) (h : instK.At w v (mkL mkInsS nmInsS k ps)) (hl : (ps.length + nmL InstQ.n ps) ≤ 1048576) (h0 : 0 ≤ k) (h1 : k + (nmL nmInsS ps : Int) ≤ 1099511627776) :
    Calls Tryz.prog 50 #[.agg #[.int .i64 c, v], .int .i64 k] w fun e w' => e = .returned (.int .i64 (k + (nmL nmInsS ps : Int))) ∧ Below w.heap.size w w' := by
  have hq := fun w h => heldInstances_k v ps k w h hl h0 h1
  obtain ⟨a, k0, rfl⟩ := h.shape
  rw [mkL_length] at h hq ⊢
  have hB : Below w.heap.size w (w.alloc (.cells #[.int .i64 c, .slice a ps.length k0] 53)) := by go_grown
  generalize hM : (nmL nmInsS ps : Int) = M at *
  have hn : ¬ (k + M < 0) := by omega
  clear hM
  go_enter Tryz.func50, Tryz.ntmps50
  go_wp2_with fail
  generalize w.alloc (.cells #[.int .i64 c, .slice a ps.length k0] 53) = W at *
  refine (hq W (h.below hB)).mono ?_
  rintro e w1 ⟨rfl, hb⟩
  replace hB := hB.trans (hb.mono hB.size)
  go_wp2
  go_ret
  exact ⟨rfl, hB⟩

end Go.Proofs.YtmgkjcobdmdjmaaGreatDoor

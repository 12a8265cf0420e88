/- What the helpers of the laws do with plans: compare, mark, held. No condition. -/
import Derived.Test.YtbdphnmkpkgdeaaR8
import Derived.Test.YtbdphnmkpkgdeaaSl8
namespace Go.Proofs.Ytbdphnmkpkgdeaa
open Go.RowKit
open Go.BigFrame
set_option linter.unusedVariables false
set_option linter.unusedSimpArgs false

set_option maxRecDepth 100000 in
set_option maxHeartbeats 2000000 in
theorem eqPlan_k (c n b : Int) (v1 v2 v1' v2' : Value) (p1 p2 q1 q2 : List TxnQ) (w : World) (h1 : txnK.At w v1 p1) (h2 : txnK.At w v2 p2) (h1' : txnK.At w v1' q1) (h2' : txnK.At w v2' q2) (e1 : p1.map TxnQ.e = q1.map TxnQ.e) (e2 : p2.map TxnQ.e = q2.map TxnQ.e) (hl1 : (p1.length + nmL TxnQ.n p1) ≤ 1048576) (hl2 : (p2.length + nmL TxnQ.n p2) ≤ 1048576) :
    Calls Try.prog 28 #[.agg #[.int .i64 c, .int .i64 n, .int .i64 b, v1, v2], .agg #[.int .i64 c, .int .i64 n, .int .i64 b, v1', v2']] w fun e w' => e = .returned (.bool true) ∧ Below w.heap.size w w' := by
  have hq1 := fun w h h' => eqTxns_k v1 v1' p1 q1 w h h' e1 hl1
  have hq2 := fun w h h' => eqTxns_k v2 v2' p2 q2 w h h' e2 hl2
  clear e1 e2
  obtain ⟨a1, k1, rfl⟩ := h1.shape
  obtain ⟨a2, k2, rfl⟩ := h2.shape
  obtain ⟨a1', k1', rfl⟩ := h1'.shape
  obtain ⟨a2', k2', rfl⟩ := h2'.shape
  have hB : Below w.heap.size w ((w.alloc (.cells #[.int .i64 c, .int .i64 n, .int .i64 b, .slice a1 p1.length k1, .slice a2 p2.length k2] 28)).alloc (.cells #[.int .i64 c, .int .i64 n, .int .i64 b, .slice a1' q1.length k1', .slice a2' q2.length k2'] 28)) := by go_grown
  have X := (Blk.new w 28 #[.int .i64 c, .int .i64 n, .int .i64 b, .slice a1 p1.length k1, .slice a2 p2.length k2]).below (show Below _ _ ((w.alloc (.cells #[.int .i64 c, .int .i64 n, .int .i64 b, .slice a1 p1.length k1, .slice a2 p2.length k2] 28)).alloc (.cells #[.int .i64 c, .int .i64 n, .int .i64 b, .slice a1' q1.length k1', .slice a2' q2.length k2'] 28)) by go_grown)
  have Y := Blk.new (w.alloc (.cells #[.int .i64 c, .int .i64 n, .int .i64 b, .slice a1 p1.length k1, .slice a2 p2.length k2] 28)) 28 #[.int .i64 c, .int .i64 n, .int .i64 b, .slice a1' q1.length k1', .slice a2' q2.length k2']
  rw [World.size_alloc] at Y
  have n0 : (c != c) = false := by simp
  have n1 : (n != n) = false := by simp
  have n2 : (b != b) = false := by simp
  go_enter Try.func28, Try.ntmps28
  go_wp2_with fail
  generalize (w.alloc (.cells #[.int .i64 c, .int .i64 n, .int .i64 b, .slice a1 p1.length k1, .slice a2 p2.length k2] 28)).alloc (.cells #[.int .i64 c, .int .i64 n, .int .i64 b, .slice a1' q1.length k1', .slice a2' q2.length k2'] 28) = W at *
  refine (hq1 W (h1.below hB) (h1'.below hB)).mono ?_
  rintro e w1 ⟨rfl, hb⟩
  replace hB := hB.trans (hb.mono hB.size)
  replace X := X.below hb
  replace Y := Y.below hb
  have x4 := X.cell 4 _ rfl
  have y4 := Y.cell 4 _ rfl
  clear hb hq1
  go_wp2_with fail
  refine (hq2 w1 (h2.below hB) (h2'.below hB)).mono ?_
  rintro e w2 ⟨rfl, hb⟩
  replace hB := hB.trans (hb.mono hB.size)
  clear X Y x4 y4 hb hq2
  go_wp2
  go_ret
  exact ⟨rfl, hB⟩

set_option maxRecDepth 100000 in
set_option maxHeartbeats 2000000 in
theorem markPlan_k (c n b : Int) (v1 v2 : Value) (p1 p2 : List TxnQ) (k : Int) (w : World) (h1 : txnK.Own w v1 p1) (h2 : txnK.Own w v2 p2) (hnd : (txnK.fp v1 p1 ++ txnK.fp v2 p2).Nodup) (hl1 : (p1.length + nmL TxnQ.n p1) ≤ 1048576) (hl2 : (p2.length + nmL TxnQ.n p2) ≤ 1048576) (h0 : 0 ≤ k) (hk : k + (nmL nmTxn p1 : Int) + (nmL nmTxn p2 : Int) ≤ 1099511627776) :
    Calls Try.prog 30 #[.agg #[.int .i64 c, .int .i64 n, .int .i64 b, v1, v2], .int .i64 k] w fun e w' => e = .returned (.int .i64 (k + (nmL nmTxn p1 : Int) + (nmL nmTxn p2 : Int))) ∧ txnK.Own w' v1 (mkL mkTxn nmTxn k p1) ∧ txnK.Own w' v2 (mkL mkTxn nmTxn (k + (nmL nmTxn p1 : Int)) p2) ∧ Out (txnK.fp v1 p1 ++ txnK.fp v2 p2) w w' := by
  obtain ⟨nd1, nd2, nd3⟩ := List.nodup_append.1 hnd
  have hq1 := fun w h => markTxns_k v1 p1 k w h nd1 hl1 h0 (by omega)
  have hq2 := fun w h => markTxns_k v2 p2 (k + (nmL nmTxn p1 : Int)) w h nd2 hl2 (by omega) hk
  have hf1 : txnK.fp v1 (mkL mkTxn nmTxn k p1) = txnK.fp v1 p1 := fp_mkL mkTxn_foot v1 k p1
  obtain ⟨a1, k1, rfl⟩ := h1.shape
  obtain ⟨a2, k2, rfl⟩ := h2.shape
  have hB : Below w.heap.size w (w.alloc (.cells #[.int .i64 c, .int .i64 n, .int .i64 b, .slice a1 p1.length k1, .slice a2 p2.length k2] 28)) := by go_grown
  have X := Blk.new w 28 #[.int .i64 c, .int .i64 n, .int .i64 b, .slice a1 p1.length k1, .slice a2 p2.length k2]
  have l1 := h1.lt
  have l2 := h2.lt
  generalize (nmL nmTxn p1 : Int) = M1 at *
  generalize (nmL nmTxn p2 : Int) = M2 at *
  go_enter Try.func30, Try.ntmps30
  go_wp2_with fail
  generalize w.alloc (.cells #[.int .i64 c, .int .i64 n, .int .i64 b, .slice a1 p1.length k1, .slice a2 p2.length k2] 28) = W at *
  refine (hq1 W (h1.below hB)).mono ?_
  rintro e w1 ⟨rfl, ho1, hu1⟩
  have h2' := (h2.below hB).out hu1 (fun x hx hx' => nd3 x hx' x hx rfl)
  replace X := X.outs8 hu1 (fun hx => by have := l1 _ hx; omega)
  have HU := (Out.of_below (F := txnK.fp (.slice a1 p1.length k1) p1 ++ txnK.fp (.slice a2 p2.length k2) p2) hB).trans (hu1.mono (fun k hk => List.mem_append.2 (Or.inl hk)))
  have x4 := X.cell 4 _ rfl
  clear hq1 hu1 hB
  go_wp2_with fail
  refine (hq2 w1 h2').mono ?_
  rintro e w2 ⟨rfl, ho2, hu2⟩
  have ho1' := ho1.out hu2 (fun x hx hx' => by rw [hf1] at hx; exact nd3 x hx x hx' rfl)
  replace HU := HU.trans (hu2.mono (fun k hk => List.mem_append.2 (Or.inr hk)))
  clear hq2 hu2 x4 X ho1 h2'
  go_wp2
  go_ret
  exact ⟨rfl, ho1', ho2, HU⟩

set_option maxRecDepth 100000 in
set_option maxHeartbeats 2000000 in
theorem heldPlan_k (c n b : Int) (v1 v2 : Value) (p1 p2 : List TxnQ) (k : Int) (w : World) (h1 : txnK.At w v1 (mkL mkTxn nmTxn k p1)) (h2 : txnK.At w v2 (mkL mkTxn nmTxn (k + (nmL nmTxn p1 : Int)) p2)) (hl1 : (p1.length + nmL TxnQ.n p1) ≤ 1048576) (hl2 : (p2.length + nmL TxnQ.n p2) ≤ 1048576) (h0 : 0 ≤ k) (hk : k + (nmL nmTxn p1 : Int) + (nmL nmTxn p2 : Int) ≤ 1099511627776) :
    Calls Try.prog 31 #[.agg #[.int .i64 c, .int .i64 n, .int .i64 b, v1, v2], .int .i64 k] w fun e w' => e = .returned (.int .i64 (k + (nmL nmTxn p1 : Int) + (nmL nmTxn p2 : Int))) ∧ Below w.heap.size w w' := by
  have hq1 := fun w h => heldTxns_k v1 p1 k w h hl1 h0 (by omega)
  have hq2 := fun w h => heldTxns_k v2 p2 (k + (nmL nmTxn p1 : Int)) w h hl2 (by omega) hk
  obtain ⟨a1, k1, rfl⟩ := h1.shape
  obtain ⟨a2, k2, rfl⟩ := h2.shape
  rw [mkL_length] at h1 hq1 h2 hq2 ⊢
  rw [mkL_length]
  have hB : Below w.heap.size w (w.alloc (.cells #[.int .i64 c, .int .i64 n, .int .i64 b, .slice a1 p1.length k1, .slice a2 p2.length k2] 28)) := by go_grown
  have X := Blk.new w 28 #[.int .i64 c, .int .i64 n, .int .i64 b, .slice a1 p1.length k1, .slice a2 p2.length k2]
  generalize hM1 : (nmL nmTxn p1 : Int) = M1 at *
  generalize hM2 : (nmL nmTxn p2 : Int) = M2 at *
  have n1 : ¬ (k + M1 < 0) := by omega
  have n2 : ¬ (k + M1 + M2 < 0) := by omega
  clear hM1 hM2
  go_enter Try.func31, Try.ntmps31
  go_wp2_with fail
  generalize w.alloc (.cells #[.int .i64 c, .int .i64 n, .int .i64 b, .slice a1 p1.length k1, .slice a2 p2.length k2] 28) = W at *
  refine (hq1 W (h1.below hB)).mono ?_
  rintro e w1 ⟨rfl, hb⟩
  replace hB := hB.trans (hb.mono hB.size)
  replace X := X.below hb
  have x4 := X.cell 4 _ rfl
  clear hb hq1
  go_wp2_with fail
  refine (hq2 w1 (h2.below hB)).mono ?_
  rintro e w2 ⟨rfl, hb⟩
  replace hB := hB.trans (hb.mono hB.size)
  clear hb hq2 X x4
  go_wp2
  go_ret
  exact ⟨rfl, hB⟩

end Go.Proofs.Ytbdphnmkpkgdeaa

/- StepFault, of the program: what a kind has is cleared. No condition. -/
import Derived.Test.YtkkdjgiencilbaaP13
namespace Go.Proofs.Ytkkdjgiencilbaa
open Go.RowKit
open Go.BigFrame
set_option linter.unusedVariables false
set_option linter.unusedSimpArgs false
set_option maxRecDepth 100000

set_option maxHeartbeats 4000000 in
theorem bey1 (nd nn i s q vk vr vn vv : Int) (a : Option Addr) (n c : Nat) (w : World) :
    Calls Try.prog 43 #[.agg #[.int .i64 1, .int .i64 nd, .int .i64 nn, .int .i64 i, .int .i64 s, .int .i64 q, .slice a n c, .int .i64 vk, .int .i64 vr, .int .i64 vn, .int .i64 vv]] w fun e w' => e = .returned (.agg #[.int .i64 1, .int .i64 0, .int .i64 nn, .int .i64 0, .int .i64 0, .int .i64 0, .slice none 0 0, .int .i64 vk, .int .i64 vr, .int .i64 vn, .int .i64 vv]) ∧ Below w.heap.size w w' := by
  have hz : (Try.prog.info? 48).map (·.size) = some (#[.int .i64 1, .int .i64 0, .int .i64 nn, .int .i64 0, .int .i64 0, .int .i64 0, .slice none 0 0, .int .i64 vk, .int .i64 vr, .int .i64 vn, .int .i64 vv] : Array Value).size := by kernel_rfl
  go_enter Try.func43, Try.ntmps43
  go_wp2
  exact bodyPost_ret (v := .agg #[.int .i64 1, .int .i64 0, .int .i64 nn, .int .i64 0, .int .i64 0, .int .i64 0, .slice none 0 0, .int .i64 vk, .int .i64 vr, .int .i64 vn, .int .i64 vv]) (by simp [results, Try.results43, go_sem]) rfl ⟨rfl, by go_grown⟩

set_option maxHeartbeats 4000000 in
theorem bey2 (nd nn i s q vk vr vn vv : Int) (a : Option Addr) (n c : Nat) (w : World) :
    Calls Try.prog 43 #[.agg #[.int .i64 2, .int .i64 nd, .int .i64 nn, .int .i64 i, .int .i64 s, .int .i64 q, .slice a n c, .int .i64 vk, .int .i64 vr, .int .i64 vn, .int .i64 vv]] w fun e w' => e = .returned (.agg #[.int .i64 2, .int .i64 nd, .int .i64 0, .int .i64 i, .int .i64 s, .int .i64 q, .slice a n c, .int .i64 vk, .int .i64 vr, .int .i64 vn, .int .i64 vv]) ∧ Below w.heap.size w w' := by
  have hz : (Try.prog.info? 48).map (·.size) = some (#[.int .i64 2, .int .i64 nd, .int .i64 0, .int .i64 i, .int .i64 s, .int .i64 q, .slice a n c, .int .i64 vk, .int .i64 vr, .int .i64 vn, .int .i64 vv] : Array Value).size := by kernel_rfl
  go_enter Try.func43, Try.ntmps43
  go_wp2
  exact bodyPost_ret (v := .agg #[.int .i64 2, .int .i64 nd, .int .i64 0, .int .i64 i, .int .i64 s, .int .i64 q, .slice a n c, .int .i64 vk, .int .i64 vr, .int .i64 vn, .int .i64 vv]) (by simp [results, Try.results43, go_sem]) rfl ⟨rfl, by go_grown⟩

set_option maxHeartbeats 4000000 in
theorem bey3 (nd nn i s q vk vr vn vv : Int) (a : Option Addr) (n c : Nat) (w : World) :
    Calls Try.prog 43 #[.agg #[.int .i64 3, .int .i64 nd, .int .i64 nn, .int .i64 i, .int .i64 s, .int .i64 q, .slice a n c, .int .i64 vk, .int .i64 vr, .int .i64 vn, .int .i64 vv]] w fun e w' => e = .returned (.agg #[.int .i64 3, .int .i64 nd, .int .i64 0, .int .i64 i, .int .i64 s, .int .i64 q, .slice a n c, .int .i64 0, .int .i64 0, .int .i64 0, .int .i64 0]) ∧ Below w.heap.size w w' := by
  have hz : (Try.prog.info? 48).map (·.size) = some (#[.int .i64 3, .int .i64 nd, .int .i64 0, .int .i64 i, .int .i64 s, .int .i64 q, .slice a n c, .int .i64 0, .int .i64 0, .int .i64 0, .int .i64 0] : Array Value).size := by kernel_rfl
  go_enter Try.func43, Try.ntmps43
  go_wp2
  exact bodyPost_ret (v := .agg #[.int .i64 3, .int .i64 nd, .int .i64 0, .int .i64 i, .int .i64 s, .int .i64 q, .slice a n c, .int .i64 0, .int .i64 0, .int .i64 0, .int .i64 0]) (by simp [results, Try.results43, go_sem]) rfl ⟨rfl, by go_grown⟩

set_option maxHeartbeats 4000000 in
theorem bey5 (nd nn i s q vk vr vn vv : Int) (a : Option Addr) (n c : Nat) (w : World) :
    Calls Try.prog 43 #[.agg #[.int .i64 5, .int .i64 nd, .int .i64 nn, .int .i64 i, .int .i64 s, .int .i64 q, .slice a n c, .int .i64 vk, .int .i64 vr, .int .i64 vn, .int .i64 vv]] w fun e w' => e = .returned (.agg #[.int .i64 5, .int .i64 0, .int .i64 0, .int .i64 i, .int .i64 s, .int .i64 q, .slice a n c, .int .i64 vk, .int .i64 vr, .int .i64 vn, .int .i64 vv]) ∧ Below w.heap.size w w' := by
  have hz : (Try.prog.info? 48).map (·.size) = some (#[.int .i64 5, .int .i64 0, .int .i64 0, .int .i64 i, .int .i64 s, .int .i64 q, .slice a n c, .int .i64 vk, .int .i64 vr, .int .i64 vn, .int .i64 vv] : Array Value).size := by kernel_rfl
  go_enter Try.func43, Try.ntmps43
  go_wp2
  exact bodyPost_ret (v := .agg #[.int .i64 5, .int .i64 0, .int .i64 0, .int .i64 i, .int .i64 s, .int .i64 q, .slice a n c, .int .i64 vk, .int .i64 vr, .int .i64 vn, .int .i64 vv]) (by simp [results, Try.results43, go_sem]) rfl ⟨rfl, by go_grown⟩

set_option maxHeartbeats 4000000 in
theorem bey0 (kd nd nn i s q vk vr vn vv : Int) (a : Option Addr) (n c : Nat) (w : World) (h1 : (kd == 1) = false) (h2 : (kd == 2) = false) (h3 : (kd == 3) = false) (h5 : (kd == 5) = false) :
    Calls Try.prog 43 #[.agg #[.int .i64 kd, .int .i64 nd, .int .i64 nn, .int .i64 i, .int .i64 s, .int .i64 q, .slice a n c, .int .i64 vk, .int .i64 vr, .int .i64 vn, .int .i64 vv]] w fun e w' => e = .returned (.agg #[.int .i64 kd, .int .i64 nd, .int .i64 nn, .int .i64 i, .int .i64 s, .int .i64 q, .slice a n c, .int .i64 vk, .int .i64 vr, .int .i64 vn, .int .i64 vv]) ∧ Below w.heap.size w w' := by
  have hz : (Try.prog.info? 48).map (·.size) = some (#[.int .i64 kd, .int .i64 nd, .int .i64 nn, .int .i64 i, .int .i64 s, .int .i64 q, .slice a n c, .int .i64 vk, .int .i64 vr, .int .i64 vn, .int .i64 vv] : Array Value).size := by kernel_rfl
  go_enter Try.func43, Try.ntmps43
  go_wp2
  exact bodyPost_ret (v := .agg #[.int .i64 kd, .int .i64 nd, .int .i64 nn, .int .i64 i, .int .i64 s, .int .i64 q, .slice a n c, .int .i64 vk, .int .i64 vr, .int .i64 vn, .int .i64 vv]) (by simp [results, Try.results43, go_sem]) rfl ⟨rfl, by go_grown⟩

end Go.Proofs.Ytkkdjgiencilbaa

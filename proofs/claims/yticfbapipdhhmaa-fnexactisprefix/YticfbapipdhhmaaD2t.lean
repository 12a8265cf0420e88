/- What the helpers of the laws on transactions do: they count, copy, compare, mark, and look for marks. -/
import Derived.Test.YticfbapipdhhmaaD2b
namespace Go.Proofs.Yticfbapipdhhmaa
open Go.RowKit
set_option linter.unusedVariables false
set_option linter.unusedSimpArgs false

theorem below_from {w W w' : World} (h : Below w.heap.size w W) (hb : Below W.heap.size W w') : Below w.heap.size w w' := h.trans (hb.mono h.size)

theorem grown_from {w W w' : World} {r : Option Nat} (h : Below w.heap.size w W) (hg : W.grownBy w' r) : w.grownBy w' r :=
  ⟨hg.os.trans h.os, hg.tape.trans h.tape, hg.output.trans h.output, Nat.le_trans h.size hg.size, fun i hi hne => (hg.block i (Nat.lt_of_lt_of_le hi h.size) hne).trans (h.block i hi)⟩

set_option maxHeartbeats 1000000 in
theorem szActS_any (a : Option Addr) (n cap : Nat) (c : Int) (w : World) (hn : n ≤ 9223372036854775807) (h0 : 0 ≤ c) (h1 : c ≤ 1099511627776) :
    Calls Try.prog 15 #[.slice a n cap, .int .i64 c] w fun e w' => e = .returned (.int .i64 (if c - n < 0 then -1 else c - n)) ∧ w' = w := by
  by_cases h : c - n < 0
  · rw [if_pos h]
    go_enter Try.func15, Try.ntmps15
    go_wp2
    go_ret
    exact ⟨rfl, rfl⟩
  · rw [if_neg h]
    go_enter Try.func15, Try.ntmps15
    go_wp2
    go_ret
    exact ⟨rfl, rfl⟩

set_option maxHeartbeats 1000000 in
theorem szTxn_any (i s q : Int) (a : Option Addr) (n cap : Nat) (c : Int) (w : World) (hn : n ≤ 9223372036854775807) (h0 : 0 ≤ c) (h1 : c ≤ 1099511627776) :
    Calls Try.prog 9 #[.agg #[.int .i64 i, .int .i64 s, .int .i64 q, .slice a n cap], .int .i64 c] w fun e w' => e = .returned (.int .i64 (if c - n < 0 then -1 else c - n)) ∧ Below w.heap.size w w' := by
  have hs := fun w => szActS_any a n cap c w hn h0 h1
  by_cases h : c - n < 0
  · rw [if_pos h] at hs ⊢
    go_enter Try.func9, Try.ntmps9
    go_wp2_with (go_at_call 15; refine (hs _).mono ?_; rintro e w' ⟨rfl, rfl⟩)
    go_ret
    exact ⟨rfl, by go_grown⟩
  · rw [if_neg h] at hs ⊢
    go_enter Try.func9, Try.ntmps9
    go_wp2_with (go_at_call 15; refine (hs _).mono ?_; rintro e w' ⟨rfl, rfl⟩)
    go_ret
    exact ⟨rfl, by go_grown⟩

set_option maxHeartbeats 1000000 in
theorem toTxn_any (i s q : Int) (a : Option Addr) (cap : Nat) (zs : List ActD) (w : World) (h : ActRow w a zs) (hl : zs.length ≤ 1048576) :
    Calls Try.prog 11 #[.agg #[.int .i64 i, .int .i64 s, .int .i64 q, .slice a zs.length cap]] w fun e w' => ∃ g c, e = .returned (.agg #[.int .i64 i, .int .i64 s, .int .i64 q, .slice (some ⟨g, 0, none⟩) zs.length c]) ∧
      w'.ownsRow w.heap.size 42 3 (.slice (some ⟨g, 0, none⟩) zs.length c) zs.length (actCells zs) ∧ Below w.heap.size w w' := by
  go_enter Try.func11, Try.ntmps11
  go_wp2_with (go_at_call 17; refine (toActS_any a cap zs _ (h.below (by go_grown)) hl).mono ?_; rintro e w' ⟨g, c, rfl, ho, hb⟩; obtain ⟨hc, hf⟩ := bcell hb; have hz : w.heap.size + 3 ≤ w'.heap.size := by have := hb.size; simp at this; omega)
  simp only [World.size_alloc] at ho
  refine bodyPost_ret (v := .agg #[.int .i64 i, .int .i64 s, .int .i64 q, .slice (some ⟨g, 0, none⟩) zs.length c]) (by simp [results, Try.results11, go_sem, hc]) rfl ⟨_, _, rfl, ?_, ?_⟩
  · refine own_base (base := w.heap.size + 1 + 1 + 1) ?_ (by omega)
    repeat' (refine ownsRow_setCell_below ?_ (by dsimp only; omega) _)
    exact ho
  · repeat' (refine Below.setCell ?_ (by dsimp only; omega) _)
    exact below_from (by go_grown) hb

set_option maxHeartbeats 1000000 in
theorem eqTxn_true (i s q : Int) (a a' : Option Addr) (cap cap' : Nat) (zs : List ActD) (w : World) (h : ActRow w a zs) (h' : ActRow w a' zs) (hl : zs.length ≤ 1099511627776) :
    Calls Try.prog 14 #[.agg #[.int .i64 i, .int .i64 s, .int .i64 q, .slice a zs.length cap], .agg #[.int .i64 i, .int .i64 s, .int .i64 q, .slice a' zs.length cap']] w fun e w' => e = .returned (.bool true) ∧ Below w.heap.size w w' := by
  have h0 : (i != i) = false := by simp
  have h1 : (s != s) = false := by simp
  have h2 : (q != q) = false := by simp
  go_enter Try.func14, Try.ntmps14
  go_wp2_with (go_at_call 20; refine (eqActS_true a a' cap cap' zs _ (h.below (by go_grown)) (h'.below (by go_grown)) hl).mono ?_; rintro e w' ⟨rfl, hb⟩)
  go_ret
  exact ⟨rfl, below_from (by go_grown) hb⟩

end Go.Proofs.Yticfbapipdhhmaa

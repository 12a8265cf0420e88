/- The iterators of chapter 10: who voted in a row. No condition. -/
import Derived.Test.YtpjmlidbligcbaaGreatDoorRg10
import Derived.Test.YtpjmlidbligcbaaGreatDoorLy10
namespace Go.Proofs.YtpjmlidbligcbaaGreatDoor
open Go.RowKit Go.Shelf
set_option linter.unusedVariables false
set_option maxRecDepth 100000
set_option linter.unusedSimpArgs false
attribute [local go_sem] Oper.semAt_some

/-- Who voted in a row, from node i on. -/
def sdF : Nat → List Int → List (Nat × Int)
  | _, [] => []
  | i, v :: r => (if v = 3 then [] else [(i, v)]) ++ sdF (i + 1) r
theorem sdF_app (a b : List Int) : ∀ i, sdF i (a ++ b) = sdF i a ++ sdF (i + a.length) b := by
  induction a with
  | nil => intro i; rfl
  | cons v r ih =>
    intro i
    simp only [List.cons_append, sdF, ih, List.length_cons, List.append_assoc]
    rw [show i + 1 + r.length = i + (r.length + 1) by omega]
theorem rvF_sdF (kind round : Int) (vs : List Int) : ∀ i, rvF kind round i vs = (sdF i vs).map (fun p => ⟨kind, round, (p.1 : Int), p.2⟩) := by
  induction vs with
  | nil => intro i; rfl
  | cons v r ih =>
    intro i
    simp only [rvF, sdF, List.map_append, ih]
    congr 1
    split <;> rfl
theorem sd_pre0 {x0 x1 x2 : Int} (h : x0 ≠ 3) : ([] : List (Nat × Int)) ++ [(0, x0)] <+: sdF 0 [x0, x1, x2] := ⟨sdF 1 [x1, x2], by simp [sdF, h]⟩
theorem sd_pre1 {x0 x1 x2 : Int} (h : x1 ≠ 3) : sdF 0 [x0] ++ [(1, x1)] <+: sdF 0 [x0, x1, x2] := ⟨sdF 2 [x2], by simp [sdF, h]⟩
theorem sd_pre2 {x0 x1 x2 : Int} (h : x2 ≠ 3) : sdF 0 [x0, x1] ++ [(2, x2)] <+: sdF 0 [x0, x1, x2] := ⟨[], by simp [sdF, h]⟩

theorem said_any (x0 x1 x2 : Int) (w : World) :
    Calls Tryz.prog 167 #[.agg #[.int .i64 x0, .int .i64 x1, .int .i64 x2]] w fun e w' => e = .returned (.func (.func 210) #[] #[.pointer (some ⟨w.heap.size, 0, none⟩)]) ∧ w' = w.alloc (.cells #[.int .i64 x0, .int .i64 x1, .int .i64 x2] 97) := by
  have hmf : ∀ (fn : Fn) (first cap : Array Value) (w : World), (Instr.makeFunc fn first cap).run Tryz.prog w = .ok (.func fn first cap) w := fun _ _ _ _ => rfl
  go_enter Tryz.func167, Tryz.ntmps167
  go_wp2
  go_ret
  exact ⟨rfl, rfl⟩

def encP (p : Nat × Int) : Array Value := #[.int .i64 (p.1 : Int), .int .i64 p.2]

set_option maxRecDepth 100000 in
set_option maxHeartbeats 4000000 in
theorem said1_hands (Bs : Nat) (x0 x1 x2 : Int) (w : World) (hB : Blk w Bs 97 #[.int .i64 x0, .int .i64 x1, .int .i64 x2]) :
    Hands Tryz.prog 210 #[.pointer (some ⟨Bs, 0, none⟩)] encP (fun _ _ _ => True) (sdF 0 [x0, x1, x2]) w := by
  intro n l J W hW hl0 hl hJ hY h0
  have hB' := hB.below hW
  have c0 := hB'.cell 0 _ rfl
  have c1 := hB'.cell 1 _ rfl
  have c2 := hB'.cell 2 _ rfl
  clear hB' hB hJ
  have i0 : ∀ u : World, (Instr.index 97 (.agg #[.int .i64 x0, .int .i64 x1, .int .i64 x2]) (.int .i64 0)).run Tryz.prog u = .ok (.int .i64 x0) u := fun u => by kernel_rfl
  have i1 : ∀ u : World, (Instr.index 97 (.agg #[.int .i64 x0, .int .i64 x1, .int .i64 x2]) (.int .i64 1)).run Tryz.prog u = .ok (.int .i64 x1) u := fun u => by kernel_rfl
  have i2 : ∀ u : World, (Instr.index 97 (.agg #[.int .i64 x0, .int .i64 x1, .int .i64 x2]) (.int .i64 2)).run Tryz.prog u = .ok (.int .i64 x2) u := fun u => by kernel_rfl
  refine callsIn_of_wp Tryz.func210 rfl trivial ?_ rfl
  simp only [Tryz.ntmps210, List.size_toArray, List.length_cons, List.length_nil, Nat.reduceAdd, Nat.reduceSub, Array.replicate_succ, Array.replicate_zero, List.push_toArray, List.append_toArray, List.nil_append, List.cons_append]
  gi_wp2
  clear c0 c1 c2
  gi_loopw [6] (fun i wr => ∃ k : Nat, k ≤ 3 ∧ i = .int .i64 k ∧ J (sdF 0 ([x0, x1, x2].take k)) wr) (fun i _ => 3 - (intOf i).toNat)
  case atStart => exact ⟨0, by omega, rfl, h0⟩
  case round =>
    obtain ⟨k, hk, rfl, hJs⟩ := hrel
    have hk4 : k = 0 ∨ k = 1 ∨ k = 2 ∨ k = 3 := by omega
    rcases hk4 with rfl | rfl | rfl | rfl
    · by_cases h3 : x0 = 3
      · have e3 : (x0 != 3) = false := by rw [h3]; rfl
        have HJ : Hid (J (sdF 0 ([x0, x1, x2].take 1)) wr) := by
          have : J (sdF 0 ([x0, x1, x2].take 0)) wr := hJs
          show J _ wr
          simpa [sdF, h3] using this
        clear hJs h3
        gi_wp2
        refine ⟨fun _ h => (by cases h), ?_⟩
        gi_wp2
        go_roundw
        case rel => exact ⟨1, by omega, by first | rfl | go_num, HJ.out⟩
        case measure => simp [intOf] <;> omega
      · have e3 : (x0 != 3) = true := by simpa using h3
        obtain ⟨fn, tmps, assign, body, hy, hR⟩ := yield_wide (m' := n - 1) (hY _ (0, x0) wr hJs (sd_pre0 h3))
        have HE : Hid (sdF 0 ([x0, x1, x2].take 0) ++ [(0, x0)] = sdF 0 ([x0, x1, x2].take 1)) := by show _ = _; simp [sdF, h3]
        replace hy : (Instr.yield l #[.int .i64 0, .int .i64 x0]).run Tryz.prog wr = .ok (.round l fn tmps assign body) wr := hy
        clear hJs h3
        gi_wp2
        refine ⟨fun h => (by cases h), hR.mono ?_⟩
        rintro e W3 ⟨rfl, hJ3, _⟩
        rw [HE.out] at hJ3
        gi_wp2
        go_roundw
        case rel => exact ⟨1, by omega, by first | rfl | go_num, hJ3⟩
        case measure => simp [intOf] <;> omega
    · by_cases h3 : x1 = 3
      · have e3 : (x1 != 3) = false := by rw [h3]; rfl
        have HJ : Hid (J (sdF 0 ([x0, x1, x2].take 2)) wr) := by
          have : J (sdF 0 ([x0, x1, x2].take 1)) wr := hJs
          show J _ wr
          simpa [sdF, h3] using this
        clear hJs h3
        gi_wp2
        refine ⟨fun _ h => (by cases h), ?_⟩
        gi_wp2
        go_roundw
        case rel => exact ⟨2, by omega, by first | rfl | go_num, HJ.out⟩
        case measure => simp [intOf] <;> omega
      · have e3 : (x1 != 3) = true := by simpa using h3
        obtain ⟨fn, tmps, assign, body, hy, hR⟩ := yield_wide (m' := n - 1) (hY _ (1, x1) wr hJs (sd_pre1 h3))
        have HE : Hid (sdF 0 ([x0, x1, x2].take 1) ++ [(1, x1)] = sdF 0 ([x0, x1, x2].take 2)) := by show _ = _; simp [sdF, h3]
        replace hy : (Instr.yield l #[.int .i64 1, .int .i64 x1]).run Tryz.prog wr = .ok (.round l fn tmps assign body) wr := hy
        clear hJs h3
        gi_wp2
        refine ⟨fun h => (by cases h), hR.mono ?_⟩
        rintro e W3 ⟨rfl, hJ3, _⟩
        rw [HE.out] at hJ3
        gi_wp2
        go_roundw
        case rel => exact ⟨2, by omega, by first | rfl | go_num, hJ3⟩
        case measure => simp [intOf] <;> omega
    · by_cases h3 : x2 = 3
      · have e3 : (x2 != 3) = false := by rw [h3]; rfl
        have HJ : Hid (J (sdF 0 ([x0, x1, x2].take 3)) wr) := by
          have : J (sdF 0 ([x0, x1, x2].take 2)) wr := hJs
          show J _ wr
          simpa [sdF, h3] using this
        clear hJs h3
        gi_wp2
        refine ⟨fun _ h => (by cases h), ?_⟩
        gi_wp2
        go_roundw
        case rel => exact ⟨3, by omega, by first | rfl | go_num, HJ.out⟩
        case measure => simp [intOf] <;> omega
      · have e3 : (x2 != 3) = true := by simpa using h3
        obtain ⟨fn, tmps, assign, body, hy, hR⟩ := yield_wide (m' := n - 1) (hY _ (2, x2) wr hJs (sd_pre2 h3))
        have HE : Hid (sdF 0 ([x0, x1, x2].take 2) ++ [(2, x2)] = sdF 0 ([x0, x1, x2].take 3)) := by show _ = _; simp [sdF, h3]
        replace hy : (Instr.yield l #[.int .i64 2, .int .i64 x2]).run Tryz.prog wr = .ok (.round l fn tmps assign body) wr := hy
        clear hJs h3
        gi_wp2
        refine ⟨fun h => (by cases h), hR.mono ?_⟩
        rintro e W3 ⟨rfl, hJ3, _⟩
        rw [HE.out] at hJ3
        gi_wp2
        go_roundw
        case rel => exact ⟨3, by omega, by first | rfl | go_num, hJ3⟩
        case measure => simp [intOf] <;> omega
    · gi_wp2
      go_end0
      exact ⟨⟨_, rfl⟩, hJs⟩

end Go.Proofs.YtpjmlidbligcbaaGreatDoor

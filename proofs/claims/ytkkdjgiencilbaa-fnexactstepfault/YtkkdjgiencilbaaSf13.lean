/- StepFault, of the program. No condition. -/
import Derived.Test.YtkkdjgiencilbaaBk13
namespace Go.Proofs.Ytkkdjgiencilbaa
open Go.RowKit
open Go.BigFrame
set_option linter.unusedVariables false
set_option linter.unusedSimpArgs false
set_option maxRecDepth 100000

theorem sameT_no (t : TxnD) : sameT t ⟨0, 0, 0, []⟩ = noTx t := by
  obtain ⟨i, s, q, acts⟩ := t
  cases acts <;> simp [sameT, noTx, sameAs]

theorem noVt_ways (v : VoteD) : ((v.kind == 0) = false ∧ noVt v = false) ∨ ((v.kind == 0) = true ∧ (v.round == 0) = false ∧ noVt v = false) ∨ ((v.kind == 0) = true ∧ (v.round == 0) = true ∧ (v.node == 0) = false ∧ noVt v = false) ∨ ((v.kind == 0) = true ∧ (v.round == 0) = true ∧ (v.node == 0) = true ∧ (v.value == 0) = false ∧ noVt v = false) ∨ ((v.kind == 0) = true ∧ (v.round == 0) = true ∧ (v.node == 0) = true ∧ (v.value == 0) = true ∧ noVt v = true) := by
  unfold noVt
  cases (v.kind == 0) <;> cases (v.round == 0) <;> cases (v.node == 0) <;> cases (v.value == 0) <;> simp

set_option maxHeartbeats 4000000 in
theorem isEmpty_any (kd nd nn i s q vk vr vn vv : Int) (a : Option Addr) (c : Nat) (acts : List ActD) (w : World) (h : ActRow w a acts) (hl : acts.length ≤ 1048576) :
    Calls Try.prog 44 #[.agg #[.int .i64 kd, .int .i64 nd, .int .i64 nn, .int .i64 i, .int .i64 s, .int .i64 q, .slice a acts.length c, .int .i64 vk, .int .i64 vr, .int .i64 vn, .int .i64 vv]] w fun e w' => e = .returned (.bool (nd == 0 && nn == 0 && noTx ⟨i, s, q, acts⟩ && noVt ⟨vk, vr, vn, vv⟩)) ∧ Below w.heap.size w w' := by
  have hq := fun w h => isSameTxn_any ⟨i, s, q, acts⟩ ⟨0, 0, 0, []⟩ a none c 0 w h (Or.inl rfl) hl (by simp)
  rw [sameT_no] at hq
  dsimp only [List.length_nil] at hq
  generalize noTx ⟨i, s, q, acts⟩ = E at *
  have hB : Below w.heap.size w (w.alloc (.cells #[.int .i64 kd, .int .i64 nd, .int .i64 nn, .int .i64 i, .int .i64 s, .int .i64 q, .slice a acts.length c, .int .i64 vk, .int .i64 vr, .int .i64 vn, .int .i64 vv] 48)) := by go_grown
  have B := Blk.new w 48 #[.int .i64 kd, .int .i64 nd, .int .i64 nn, .int .i64 i, .int .i64 s, .int .i64 q, .slice a acts.length c, .int .i64 vk, .int .i64 vr, .int .i64 vn, .int .i64 vv]
  have hA := h.below hB
  cases h1 : (nd == 0)
  · clear hq
    go_enter Try.func44, Try.ntmps44
    go_wp2
    go_ret
    exact ⟨by simp, hB⟩
  cases h2 : (nn == 0)
  · clear hq
    go_enter Try.func44, Try.ntmps44
    go_wp2
    go_ret
    exact ⟨rfl, hB⟩
  have q0 := B.cell 0 _ rfl
  have q1 := B.cell 1 _ rfl
  have q2 := B.cell 2 _ rfl
  have q3 := B.cell 3 _ rfl
  have q4 := B.cell 4 _ rfl
  have q5 := B.cell 5 _ rfl
  have q6 := B.cell 6 _ rfl
  have q7 := B.cell 7 _ rfl
  have q8 := B.cell 8 _ rfl
  have q9 := B.cell 9 _ rfl
  have q10 := B.cell 10 _ rfl
  go_enter Try.func44, Try.ntmps44
  go_wp2_with fail
  clear q0 q1 q2 q3 q4 q5 q6 q7 q8 q9 q10
  generalize w.alloc (.cells #[.int .i64 kd, .int .i64 nd, .int .i64 nn, .int .i64 i, .int .i64 s, .int .i64 q, .slice a acts.length c, .int .i64 vk, .int .i64 vr, .int .i64 vn, .int .i64 vv] 48) = W at *
  refine (hq W hA).mono ?_
  rintro e w2 ⟨rfl, hb⟩
  replace hB := hB.trans (hb.mono hB.size)
  replace B := B.below hb
  clear hq
  have q7 := B.cell 7 _ rfl
  have q8 := B.cell 8 _ rfl
  have q9 := B.cell 9 _ rfl
  have q10 := B.cell 10 _ rfl
  cases E with
  | false =>
    go_wp2
    go_ret
    exact ⟨by simp, hB⟩
  | true =>
    rcases noVt_ways ⟨vk, vr, vn, vv⟩ with ⟨h3, e⟩ | ⟨h3, h4, e⟩ | ⟨h3, h4, h5, e⟩ | ⟨h3, h4, h5, h6, e⟩ | ⟨h3, h4, h5, h6, e⟩ <;> (try dsimp only at h3) <;> (try dsimp only at h4) <;> (try dsimp only at h5) <;> (try dsimp only at h6) <;> (have HE : Hid _ := e; clear e; go_wp2; go_ret; exact ⟨by rw [HE.out]; rfl, hB⟩)

/-- What is left of a step without what its kind has. -/
def lft (d : StepD) : Bool := (if d.kd == 1 ∨ d.kd == 5 then true else d.nd == 0) && (if d.kd == 2 ∨ d.kd == 3 ∨ d.kd == 5 then true else d.nn == 0) && (if d.kd == 1 then true else noTx d.t) && (if d.kd == 3 then true else noVt d.v)

theorem sfOk_lft (d : StepD) : sfOk d = ((decide (1 ≤ d.kd) && decide (d.kd ≤ 5)) && lft d) := by
  unfold sfOk lft
  cases h1 : (d.kd == 1) <;> cases h2 : (d.kd == 2) <;> cases h3 : (d.kd == 3) <;> cases h5 : (d.kd == 5) <;> simp [Bool.and_assoc]

set_option maxHeartbeats 4000000 in
theorem implStepFault_any (p : StepQ) (w : World) (h : stepK.rd w p) (hl : StepQ.n p ≤ 1048576) :
    Calls Try.prog 15 #[.agg #[.int .i64 p.kd, .int .i64 p.nd, .int .i64 p.nn, .int .i64 p.i, .int .i64 p.s, .int .i64 p.q, p.va, .int .i64 p.vk, .int .i64 p.vr, .int .i64 p.vn, .int .i64 p.vv]] w fun e w' => e = .returned (.int .i64 (sfF p.e)) ∧ Below w.heap.size w w' := by
  obtain ⟨kd, nd, nn, i, s, q, va, acts, vk, vr, vn, vv⟩ := p
  have h : actK.At w va acts := h
  obtain ⟨a, c, rfl⟩ := h.shape
  have hR := (actK_at h).2
  have hl : acts.length ≤ 1048576 := hl
  clear h
  have hB : Below w.heap.size w (w.alloc (.cells #[.int .i64 kd, .int .i64 nd, .int .i64 nn, .int .i64 i, .int .i64 s, .int .i64 q, .slice a acts.length c, .int .i64 vk, .int .i64 vr, .int .i64 vn, .int .i64 vv] 48)) := by go_grown
  have B := Blk.new w 48 #[.int .i64 kd, .int .i64 nd, .int .i64 nn, .int .i64 i, .int .i64 s, .int .i64 q, .slice a acts.length c, .int .i64 vk, .int .i64 vr, .int .i64 vn, .int .i64 vv]
  replace hR := hR.below hB
  have hF : sfF (StepQ.e ⟨kd, nd, nn, i, s, q, .slice a acts.length c, acts, vk, vr, vn, vv⟩) = if (decide (1 ≤ kd) && decide (kd ≤ 5)) && lft ⟨kd, nd, nn, ⟨i, s, q, acts⟩, ⟨vk, vr, vn, vv⟩⟩ then 0 else 1 := by
    unfold sfF
    rw [sfOk_lft]
    rfl
  rw [hF]
  clear hF
  have q0 := B.cell 0 _ rfl
  have q1 := B.cell 1 _ rfl
  have q2 := B.cell 2 _ rfl
  have q3 := B.cell 3 _ rfl
  have q4 := B.cell 4 _ rfl
  have q5 := B.cell 5 _ rfl
  have q6 := B.cell 6 _ rfl
  have q7 := B.cell 7 _ rfl
  have q8 := B.cell 8 _ rfl
  have q9 := B.cell 9 _ rfl
  have q10 := B.cell 10 _ rfl
  have hw := fun w => isWithin_any kd 1 5 w
  simp only [inW] at hw
  by_cases hkk : 1 ≤ kd ∧ kd ≤ 5
  · have hd : (decide (1 ≤ kd) && decide (kd ≤ 5)) = true := by simp [hkk.1, hkk.2]
    rw [hd] at hw ⊢
    rw [Bool.true_and]
    have HB : ∃ nd' nn' i' s' q' a' acts' c' vk' vr' vn' vv', (∀ w, Calls Try.prog 43 #[.agg #[.int .i64 kd, .int .i64 nd, .int .i64 nn, .int .i64 i, .int .i64 s, .int .i64 q, .slice a acts.length c, .int .i64 vk, .int .i64 vr, .int .i64 vn, .int .i64 vv]] w fun e w' => e = .returned (.agg #[.int .i64 kd, .int .i64 nd', .int .i64 nn', .int .i64 i', .int .i64 s', .int .i64 q', .slice a' acts'.length c', .int .i64 vk', .int .i64 vr', .int .i64 vn', .int .i64 vv']) ∧ Below w.heap.size w w') ∧ (acts'.length ≤ 1048576 ∧ ∀ w, ActRow w a acts → ActRow w a' acts') ∧ lft ⟨kd, nd, nn, ⟨i, s, q, acts⟩, ⟨vk, vr, vn, vv⟩⟩ = (nd' == 0 && nn' == 0 && noTx ⟨i', s', q', acts'⟩ && noVt ⟨vk', vr', vn', vv'⟩) := by
      by_cases e1 : kd = 1
      · subst e1
        exact ⟨0, nn, 0, 0, 0, none, [], 0, vk, vr, vn, vv, fun w => bey1 nd nn i s q vk vr vn vv a acts.length c w, ⟨by simp, fun w _ => Or.inl rfl⟩, by simp [lft, noTx]⟩
      by_cases e2 : kd = 2
      · subst e2
        exact ⟨nd, 0, i, s, q, a, acts, c, vk, vr, vn, vv, fun w => bey2 nd nn i s q vk vr vn vv a acts.length c w, ⟨hl, fun w h => h⟩, by simp [lft]⟩
      by_cases e3 : kd = 3
      · subst e3
        exact ⟨nd, 0, i, s, q, a, acts, c, 0, 0, 0, 0, fun w => bey3 nd nn i s q vk vr vn vv a acts.length c w, ⟨hl, fun w h => h⟩, by simp [lft, noVt]⟩
      by_cases e5 : kd = 5
      · subst e5
        exact ⟨0, 0, i, s, q, a, acts, c, vk, vr, vn, vv, fun w => bey5 nd nn i s q vk vr vn vv a acts.length c w, ⟨hl, fun w h => h⟩, by simp [lft]⟩
      · exact ⟨nd, nn, i, s, q, a, acts, c, vk, vr, vn, vv, fun w => bey0 kd nd nn i s q vk vr vn vv a acts.length c w (by simpa using e1) (by simpa using e2) (by simpa using e3) (by simpa using e5), ⟨hl, fun w h => h⟩, by simp [lft, e1, e2, e3, e5]⟩
    obtain ⟨nd', nn', i', s', q', a', acts', c', vk', vr', vn', vv', hb1, ⟨hl', hr'⟩, hE⟩ := HB
    rw [hE]
    have he := fun w h => isEmpty_any kd nd' nn' i' s' q' vk' vr' vn' vv' a' c' acts' w h hl'
    generalize (nd' == 0 && nn' == 0 && noTx ⟨i', s', q', acts'⟩ && noVt ⟨vk', vr', vn', vv'⟩) = E at *
    go_enter Try.func15, Try.ntmps15
    go_wp2_with fail
    clear q0 q1 q2 q3 q4 q5 q6 q7 q8 q9 q10
    generalize w.alloc (.cells #[.int .i64 kd, .int .i64 nd, .int .i64 nn, .int .i64 i, .int .i64 s, .int .i64 q, .slice a acts.length c, .int .i64 vk, .int .i64 vr, .int .i64 vn, .int .i64 vv] 48) = W at *
    refine (hw W).mono ?_
    rintro e w1 ⟨rfl, hww⟩
    replace hww := hww.symm
    subst hww
    clear hw
    have q0 := B.cell 0 _ rfl
    have q1 := B.cell 1 _ rfl
    have q2 := B.cell 2 _ rfl
    have q3 := B.cell 3 _ rfl
    have q4 := B.cell 4 _ rfl
    have q5 := B.cell 5 _ rfl
    have q6 := B.cell 6 _ rfl
    have q7 := B.cell 7 _ rfl
    have q8 := B.cell 8 _ rfl
    have q9 := B.cell 9 _ rfl
    have q10 := B.cell 10 _ rfl
    go_wp2_with fail
    clear q0 q1 q2 q3 q4 q5 q6 q7 q8 q9 q10 B
    refine (hb1 W).mono ?_
    rintro e w2 ⟨rfl, hb⟩
    replace hB := hB.trans (hb.mono hB.size)
    replace hR := hR.below hb
    clear hb hb1
    go_wp2_with fail
    refine (he w2 (hr' w2 hR)).mono ?_
    rintro e w3 ⟨rfl, hb⟩
    replace hB := hB.trans (hb.mono hB.size)
    clear he hr'
    cases E with
    | false =>
      go_wp2
      go_ret
      exact ⟨rfl, hB⟩
    | true =>
      go_wp2
      go_ret
      exact ⟨rfl, hB⟩
  · have hd : (decide (1 ≤ kd) && decide (kd ≤ 5)) = false := by
      rw [Bool.and_eq_false_iff, decide_eq_false_iff_not, decide_eq_false_iff_not]
      omega
    rw [hd] at hw ⊢
    rw [Bool.false_and]
    go_enter Try.func15, Try.ntmps15
    go_wp2_with fail
    clear q0 q1 q2 q3 q4 q5 q6 q7 q8 q9 q10
    generalize w.alloc (.cells #[.int .i64 kd, .int .i64 nd, .int .i64 nn, .int .i64 i, .int .i64 s, .int .i64 q, .slice a acts.length c, .int .i64 vk, .int .i64 vr, .int .i64 vn, .int .i64 vv] 48) = W at *
    refine (hw W).mono ?_
    rintro e w1 ⟨rfl, hww⟩
    replace hww := hww.symm
    subst hww
    go_wp2
    go_ret
    exact ⟨rfl, hB⟩

end Go.Proofs.Ytkkdjgiencilbaa

/- HasCrash, of the program and of its model. No condition. -/
import Derived.Test.YtkkdjgiencilbaaP13
import Derived.Test.YtkkdjgiencilbaaSl8
namespace Go.Proofs.Ytkkdjgiencilbaa
open Go.RowKit
open Go.BigFrame
set_option linter.unusedVariables false
set_option linter.unusedSimpArgs false

set_option maxHeartbeats 1000000 in
theorem isCrash_any (kd nd nn i s q vk vr vn vv : Int) (a : Option Addr) (n c : Nat) (w : World) :
    Calls Try.prog 54 #[.agg #[.int .i64 kd, .int .i64 nd, .int .i64 nn, .int .i64 i, .int .i64 s, .int .i64 q, .slice a n c, .int .i64 vk, .int .i64 vr, .int .i64 vn, .int .i64 vv]] w fun e w' => e = .returned (.bool (kd == 5 && nn == 3)) ∧ Below w.heap.size w w' := by
  cases h1 : (kd == 5)
  · go_enter Try.func54, Try.ntmps54
    go_wp2
    go_ret
    exact ⟨rfl, by go_grown⟩
  · cases h2 : (nn == 3)
    · go_enter Try.func54, Try.ntmps54
      go_wp2
      go_ret
      exact ⟨rfl, by go_grown⟩
    · go_enter Try.func54, Try.ntmps54
      go_wp2
      go_ret
      exact ⟨rfl, by go_grown⟩

def crQ (p : StepQ) : Bool := crS p.e

set_option maxHeartbeats 2000000 in
theorem indexFuncS_any (v : Value) (ps : List StepQ) (w : World) (h : stepK.At w v ps) (hl : ps.length ≤ 1048576) :
    Calls Try.prog 75 #[v, .func (.func 54) #[] #[]] w fun e w' => ∃ r : Int, e = .returned (.int .i64 r) ∧ (ps.any crQ = true → 0 ≤ r) ∧ (ps.any crQ = false → r < 0) ∧ Below w.heap.size w w' := by
  obtain ⟨a, cap, rfl⟩ := h.shape
  have HE : Hid (∀ k (hk : k < ps.length), crQ ps[k] = true → ps.any crQ = true) := fun k hk h1 => any_yes _ ps k hk h1
  have HF : Hid (∀ k (hk : k < ps.length), (ps.take k).any crQ = false → crQ ps[k] = false → (ps.take (k + 1)).any crQ = false) := fun k hk h0 h1 => any_no _ ps k hk h0 h1
  have HG : Hid ((ps.take ps.length).any crQ = false → ps.any crQ = false) := by rw [List.take_length]; exact id
  generalize ps.any crQ = E at *
  go_enter Try.func75, Try.ntmps75
  go_wp2
  go_loopw [8] (fun j wr => ∃ k : Nat, k ≤ ps.length ∧ j = .int .i64 k ∧ Below w.heap.size w wr ∧ Hid ((ps.take k).any crQ = false)) (fun j _ => ps.length - (intOf j).toNat)
  case atStart => exact ⟨0, Nat.zero_le _, rfl, Below.refl _ _, show _ = _ by simp⟩
  case round =>
    obtain ⟨k, hk, rfl, hb, HA⟩ := hrel
    by_cases hlt : k < ps.length
    · obtain ⟨b', off, rfl, hbs, hc, hrd⟩ := (h.below hb).cell (by decide) k hlt
      have hc' : ∀ j x, (stepK.cells ps[k])[j]? = some x → wr.cell? ⟨b', off + k * 11 + j, none⟩ = some x := hc
      have c0 := hc' 0 (.int .i64 ps[k].kd) rfl
      have c1 := hc' 1 (.int .i64 ps[k].nd) rfl
      have c2 := hc' 2 (.int .i64 ps[k].nn) rfl
      have c3 := hc' 3 (.int .i64 ps[k].i) rfl
      have c4 := hc' 4 (.int .i64 ps[k].s) rfl
      have c5 := hc' 5 (.int .i64 ps[k].q) rfl
      have c6 := hc' 6 (ps[k].va) rfl
      have c7 := hc' 7 (.int .i64 ps[k].vk) rfl
      have c8 := hc' 8 (.int .i64 ps[k].vr) rfl
      have c9 := hc' 9 (.int .i64 ps[k].vn) rfl
      have c10 := hc' 10 (.int .i64 ps[k].vv) rfl
      rw [Nat.add_zero] at c0
      have HY : Hid (crQ ps[k] = true → E = true) := HE.out k hlt
      have HN : Hid (crQ ps[k] = false → (ps.take (k + 1)).any crQ = false) := HF.out k hlt HA.out
      clear HA hc hc' HE HF
      generalize ps[k] = p at *
      obtain ⟨kd, nd, nn, i, s, q, va, acts, vk, vr, vn, vv⟩ := p
      replace hrd : actK.At wr va acts := hrd
      obtain ⟨aa, ac, rfl⟩ := hrd.shape
      dsimp only at c0 c1 c2 c3 c4 c5 c6 c7 c8 c9 c10
      have hq := isCrash_any kd nd nn i s q vk vr vn vv aa acts.length ac wr
      replace HY : Hid ((kd == 5 && nn == 3) = true → E = true) := HY
      replace HN : Hid ((kd == 5 && nn == 3) = false → (ps.take (k + 1)).any crQ = false) := HN
      generalize (kd == 5 && nn == 3) = S at *
      have hlti : (k : Int) < (ps.length : Int) := by omega
      go_wp2_with fail
      refine hq.mono ?_
      rintro e w2 ⟨rfl, hb2⟩
      replace hb := hb.trans (hb2.mono hb.size)
      clear hq c0 c1 c2 c3 c4 c5 c6 c7 c8 c9 c10 hb2 hrd hbs
      cases S with
      | true =>
        have E1 : Hid (E = true) := HY.out rfl
        clear HY HN
        go_wp2
        go_ret
        refine ⟨_, rfl, fun _ => by omega, fun h0 => ?_, hb⟩
        rw [E1.out] at h0
        exact absurd h0 (by decide)
      | false =>
        have HR' : Hid _ := HN.out rfl
        clear HY HN
        go_wp2
        go_roundw
        case rel => exact ⟨k + 1, by omega, by go_num, hb, HR'.out⟩
        case measure => simp [intOf]; omega
    · have hkl : k = ps.length := by omega
      subst hkl
      have E1 : Hid (E = false) := HG.out HA.out
      have hlti : ¬ (ps.length : Int) < (ps.length : Int) := by omega
      clear HA HE HF HG
      go_wp2
      go_ret
      refine ⟨_, rfl, fun h0 => ?_, fun _ => by omega, hb⟩
      rw [E1.out] at h0
      exact absurd h0 (by decide)

set_option maxHeartbeats 1000000 in
theorem containsFuncS_any (v : Value) (ps : List StepQ) (w : World) (h : stepK.At w v ps) (hl : ps.length ≤ 1048576) :
    Calls Try.prog 53 #[v, .func (.func 54) #[] #[]] w fun e w' => e = .returned (.bool (ps.any crQ)) ∧ Below w.heap.size w w' := by
  have hq := indexFuncS_any v ps w h hl
  obtain ⟨a, cap, rfl⟩ := h.shape
  generalize ps.any crQ = E at *
  go_enter Try.func53, Try.ntmps53
  go_wp2_with fail
  refine hq.mono ?_
  rintro e w2 ⟨r, rfl, h1, h2, hb⟩
  cases E with
  | true =>
    have h0 : 0 ≤ r := h1 rfl
    clear h1 h2
    go_wp2
    go_ret
    exact ⟨by simp [h0], hb⟩
  | false =>
    have h0 : r < 0 := h2 rfl
    have h3 : ¬ 0 ≤ r := by omega
    clear h1 h2
    go_wp2
    go_ret
    exact ⟨by simp [h3], hb⟩

def hasCr (ds : List StepD) : Bool := ds.any crS
theorem hasCr_q (ps : List StepQ) : ps.any crQ = hasCr (ps.map StepQ.e) := by
  unfold hasCr
  rw [List.any_map]
  rfl

set_option maxHeartbeats 1000000 in
theorem implHasCrash_any (v : Value) (ps : List StepQ) (w : World) (h : stepK.At w v ps) (hl : ps.length + nmL StepQ.n ps ≤ 1048576) :
    Calls Try.prog 27 #[v] w fun e w' => e = .returned (.bool (hasCr (ps.map StepQ.e))) ∧ Below w.heap.size w w' := by
  have hq := containsFuncS_any v ps w h (by omega)
  rw [hasCr_q] at hq
  obtain ⟨a, cap, rfl⟩ := h.shape
  generalize hasCr (ps.map StepQ.e) = E at *
  go_enter Try.func27, Try.ntmps27
  go_wp2_with fail
  refine hq.mono ?_
  rintro e w2 ⟨rfl, hb⟩
  go_wp2
  go_ret
  exact ⟨rfl, hb⟩

set_option maxHeartbeats 2000000 in
theorem specHasCrash_any (v : Value) (ps : List StepQ) (w : World) (h : stepK.At w v ps) (hcap : CapOk v) (hl : ps.length + nmL StepQ.n ps ≤ 1048576) :
    Calls Try.prog 26 #[v] w fun e w' => e = .returned (.bool (hasCr (ps.map StepQ.e))) ∧ Below w.heap.size w w' := by
  rw [← hasCr_q]
  obtain ⟨a, cap, rfl⟩ := h.shape
  have HE : Hid (∀ k (hk : k < ps.length), crQ ps[k] = true → ps.any crQ = true) := fun k hk h1 => any_yes _ ps k hk h1
  have HF : Hid (∀ k (hk : k < ps.length), (ps.take k).any crQ = false → crQ ps[k] = false → (ps.take (k + 1)).any crQ = false) := fun k hk h0 h1 => any_no _ ps k hk h0 h1
  have HG : Hid ((ps.take ps.length).any crQ = false → ps.any crQ = false) := by rw [List.take_length]; exact id
  generalize ps.any crQ = E at *
  go_enter Try.func26, Try.ntmps26
  go_wp2
  go_loopw [3] (fun j wr => ∃ k : Nat, k ≤ ps.length ∧ j = .int .i64 k ∧ Below w.heap.size w wr ∧ Hid ((ps.take k).any crQ = false)) (fun j _ => ps.length - (intOf j).toNat)
  case atStart => exact ⟨0, Nat.zero_le _, rfl, Below.refl _ _, show _ = _ by simp⟩
  case round =>
    obtain ⟨k, hk, rfl, hb, HA⟩ := hrel
    by_cases hlt : k < ps.length
    · obtain ⟨b', off, rfl, hbs, hc, hrd⟩ := (h.below hb).cell (by decide) k hlt
      have hc' : ∀ j x, (stepK.cells ps[k])[j]? = some x → wr.cell? ⟨b', off + k * 11 + j, none⟩ = some x := hc
      have c0 := hc' 0 (.int .i64 ps[k].kd) rfl
      have c2 := hc' 2 (.int .i64 ps[k].nn) rfl
      rw [Nat.add_zero] at c0
      have HY : Hid (crQ ps[k] = true → E = true) := HE.out k hlt
      have HN : Hid (crQ ps[k] = false → (ps.take (k + 1)).any crQ = false) := HF.out k hlt HA.out
      clear HA hc hc' HE HF hrd
      generalize ps[k] = p at *
      obtain ⟨kd, nd, nn, i, s, q, va, acts, vk, vr, vn, vv⟩ := p
      dsimp only at c0 c2
      replace HY : Hid ((kd == 5 && nn == 3) = true → E = true) := HY
      replace HN : Hid ((kd == 5 && nn == 3) = false → (ps.take (k + 1)).any crQ = false) := HN
      have hlti : (k : Int) < (ps.length : Int) := by omega
      cases h1 : (kd == 5)
      · rw [h1] at HN
        have HR' : Hid _ := HN.out rfl
        clear HY HN
        go_wp2
        go_roundw
        case rel => exact ⟨k + 1, by omega, by go_num, hb, HR'.out⟩
        case measure => simp [intOf]; omega
      · cases h2 : (nn == 3)
        · rw [h1, h2] at HN
          have HR' : Hid _ := HN.out rfl
          clear HY HN
          go_wp2
          go_roundw
          case rel => exact ⟨k + 1, by omega, by go_num, hb, HR'.out⟩
          case measure => simp [intOf]; omega
        · rw [h1, h2] at HY
          have E1 : Hid (E = true) := HY.out rfl
          clear HY HN
          go_wp2
          go_ret
          exact ⟨by simp [E1.out, results, go_sem], hb⟩
    · have hkl : k = ps.length := by omega
      subst hkl
      have E1 : Hid (E = false) := HG.out HA.out
      have hlti : ¬ (ps.length : Int) < (ps.length : Int) := by omega
      clear HA HE HF HG
      go_wp2
      go_ret
      exact ⟨by simp [E1.out, results, go_sem], hb⟩

theorem steps_n {ps qs : List StepQ} (h : qs.map StepQ.e = ps.map StepQ.e) : qs.length + nmL StepQ.n qs = ps.length + nmL StepQ.n ps := by
  have h1 : qs.length = ps.length := by simpa using congrArg List.length h
  have h2 : nmL StepQ.n qs = nmL StepQ.n ps := by
    have := congrArg (List.map (fun d : StepD => d.t.acts.length)) h
    rw [List.map_map, List.map_map] at this
    unfold nmL
    exact congrArg List.sum this
  rw [h1, h2]

end Go.Proofs.Ytkkdjgiencilbaa

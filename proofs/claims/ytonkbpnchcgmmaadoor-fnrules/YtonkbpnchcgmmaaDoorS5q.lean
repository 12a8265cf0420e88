/- ProposalFor of the program and of its model: the same code and value. -/
import Derived.Test.YtonkbpnchcgmmaaDoorS5p
namespace Go.Proofs.YtonkbpnchcgmmaaDoor
open Go.RowKit
set_option linter.unusedVariables false
set_option linter.unusedSimpArgs false

def pr2 (z o : Int) : Int := if 2 ≤ z then 0 else if 2 ≤ o then 1 else 2
def pfC (zs : List Int) (m : Int) : Int := if vf zs 1 = 0 then (if heard zs m then 0 else 10) else vf zs 1
def pfV (zs : List Int) (m : Int) : Int := if pfC zs m = 0 then pr2 (cnt m zs 0) (cnt m zs 1) else 0
theorem rp_pr4 : ∀ z ∈ [(0 : Int), 1, 2, 3], ∀ o ∈ [(0 : Int), 1, 2, 3], rp (pick5 z o) = pr2 z o := by decide +kernel

theorem fieldR2 (a0 a1 a2 a3 : Int) (a4 a5 : Bool) (a6 : Int) (w : World) : (Instr.field 47 (.agg #[.int .i64 a0, .int .i64 a1, .int .i64 a2, .int .i64 a3, .bool a4, .bool a5, .int .i64 a6]) 2).run Tryd.prog w = .ok (.int .i64 a2) w := by kernel_rfl
theorem fieldR3 (a0 a1 a2 a3 : Int) (a4 a5 : Bool) (a6 : Int) (w : World) : (Instr.field 47 (.agg #[.int .i64 a0, .int .i64 a1, .int .i64 a2, .int .i64 a3, .bool a4, .bool a5, .int .i64 a6]) 3).run Tryd.prog w = .ok (.agg #[.int .i64 a3, .bool a4, .bool a5, .int .i64 a6]) w := by kernel_rfl

set_option maxHeartbeats 1000000 in
theorem implProp_any (a : Option Addr) (cap : Nat) (zs : List Int) (m : Int) (w : World) (hG : Rul w) (h : Row .i64 w a zs) (hm : zs.length ≤ 9223372036854775807) :
    Calls Tryd.prog 10 #[.slice a zs.length cap, .int .i64 m] w fun e w' => e = .returned (.agg #[.int .i64 (pfC zs m), .int .i64 (pfV zs m)]) ∧ Below w.heap.size w w' := by
  have hB : Below w.heap.size w (w.alloc (.cells #[.int .i64 0, .int .i64 0] 28)) := by go_grown
  have hv := fun w h => votesFault_any a cap zs 1 w h hm
  rw [vfa1] at hv
  by_cases h0 : vf zs 1 = 0
  · have hl := vf_len h0
    rw [h0] at hv
    rw [hl] at hv ⊢
    have hh := isHeard_any a cap zs m _ (h.below hB) hl
    by_cases h1 : heard zs m = true
    · have e1 : pfC zs m = 0 := by simp [pfC, h0, h1]
      have e2 : pfV zs m = pr2 (cnt m zs 0) (cnt m zs 1) := by simp [pfV, e1]
      have e3 := rp_pr4 _ (four (cnt_in m zs 0)) _ (four (cnt_in m zs 1))
      have hc := countsOf_any a cap zs m _ (h.below hB) hl (heard_in h1)
      have hr := ruleFor_any _ _ _ (hG.below hB) (cnt_in m zs 0) (cnt_in m zs 1)
      rw [e1, e2, ← e3]
      rw [h1] at hh
      clear e1 e2 e3 h0 hl h1
      unfold rule rulV at hr
      generalize pick5 (cnt m zs 0) (cnt m zs 1) = E at *
      generalize fl (cnt m zs 0) = z0 at *
      generalize fl (cnt m zs 1) = o0 at *
      generalize rz E = a0 at *
      generalize ro E = a1 at *
      generalize rp E = a2 at *
      generalize rd E = a4 at *
      generalize rc E = a5 at *
      generalize rv E = a6 at *
      have Bx := Blk.new w 28 #[.int .i64 0, .int .i64 0]
      have hv1 := hv _ (h.below hB)
      clear hv
      go_enter Tryd.func10, Tryd.ntmps10
      go_wp2_with fail
      generalize w.alloc (.cells #[.int .i64 0, .int .i64 0] 28) = W at *
      refine hv1.mono ?_
      rintro e w' ⟨rfl, hw⟩
      replace hw := hw.symm
      subst hw
      go_wp2_with fail
      refine hh.mono ?_
      rintro e w' ⟨rfl, hw⟩
      replace hw := hw.symm
      subst hw
      go_wp2_with fail
      refine hc.mono ?_
      rintro e w' ⟨rfl, hw⟩
      replace hw := hw.symm
      subst hw
      go_wp2_with fail
      refine hr.mono ?_
      rintro e w' ⟨rfl, hb⟩
      replace Bx := Bx.below hb
      replace hB := hB.trans (hb.mono hB.size)
      have p0 := Bx.cell 0 _ rfl
      have p1 := Bx.cell 1 _ rfl
      have f0 := Bx.frozen 0
      have f1 := Bx.frozen 1
      have hfl := fieldR2 a0 a1 a2 0 a4 a5 a6 w'
      clear hb hv1 hh hc hr Bx
      go_wp2
      exact bodyPost_ret (v := .agg #[.int .i64 0, .int .i64 a2]) (by simp [results, Tryd.results10, go_sem, p0, p1]) rfl ⟨rfl, (hB.setCell (p := ⟨w.heap.size, 0, none⟩) (Nat.le_refl _) _).setCell (p := ⟨w.heap.size, 1, none⟩) (Nat.le_refl _) _⟩
    · have h1' : heard zs m = false := by simpa using h1
      have e1 : pfC zs m = 10 := by simp [pfC, h0, h1']
      have e2 : pfV zs m = 0 := by simp [pfV, e1]
      rw [e1, e2]
      rw [h1'] at hh
      clear e1 e2 h0 hl h1
      go_enter Tryd.func10, Tryd.ntmps10
      go_wp2_with (first | (go_at_call 28; refine (hv _ (h.below (by go_grown))).mono ?_; rintro e w' ⟨rfl, rfl⟩) | (go_at_call 29; refine hh.mono ?_; rintro e w' ⟨rfl, rfl⟩))
      exact bodyPost_ret (v := .agg #[.int .i64 10, .int .i64 0]) (by simp [results, Tryd.results10, go_sem]) rfl ⟨rfl, by go_grown⟩
  · have e1 : pfC zs m = vf zs 1 := by simp [pfC, h0]
    have e2 : pfV zs m = 0 := by simp [pfV, e1, h0]
    rw [e1, e2]
    clear e1 e2
    have h0' : (vf zs 1 != 0) = true := by simpa using h0
    clear h0
    generalize vf zs 1 = c at *
    go_enter Tryd.func10, Tryd.ntmps10
    go_wp2_with (go_at_call 28; refine (hv _ (h.below (by go_grown))).mono ?_; rintro e w' ⟨rfl, rfl⟩)
    exact bodyPost_ret (v := .agg #[.int .i64 c, .int .i64 0]) (by simp [results, Tryd.results10, go_sem]) rfl ⟨rfl, by go_grown⟩

set_option maxHeartbeats 1000000 in
theorem l5Heard_any (a : Option Addr) (cap : Nat) (zs : List Int) (m : Int) (w : World) (h : Row .i64 w a zs) (hl : zs.length = 3) :
    Calls Tryd.prog 36 #[.slice a 3 cap, .int .i64 m] w fun e w' => e = .returned (.bool (heard zs m)) ∧ Below w.heap.size w w' := by
  have hq := l5Quorum_any m w
  unfold heard
  by_cases h1 : isQ m = true
  · have hvo := fun w h => l5Count_any a cap zs m 3 w h hl (isQ_in h1)
    rw [h1] at hq ⊢
    clear h1
    generalize cnt m zs 3 = u at *
    go_enter Tryd.func36, Tryd.ntmps36
    go_wp2_with fail
    refine hq.mono ?_
    rintro e w1 ⟨rfl, b1⟩
    have hv1 := hvo w1 (h.below b1)
    clear hvo hq
    go_wp2_with fail
    refine hv1.mono ?_
    rintro e w2 ⟨rfl, b2⟩
    replace b2 := b1.trans (b2.mono b1.size)
    clear hv1
    go_wp2
    go_ret
    exact ⟨by simp, b2⟩
  · have h1' : isQ m = false := by simpa using h1
    rw [h1'] at hq ⊢
    clear h1 h1'
    go_enter Tryd.func36, Tryd.ntmps36
    go_wp2_with (go_at_call 46; refine hq.mono ?_; rintro e w' ⟨rfl, b1⟩)
    go_ret
    exact ⟨by simp, b1⟩

set_option maxHeartbeats 1000000 in
theorem l5Proposal_any (a : Option Addr) (cap : Nat) (zs : List Int) (m : Int) (w : World) (h : Row .i64 w a zs) (hl : zs.length = 3) (hm : inB m 0 7 = true) :
    Calls Tryd.prog 37 #[.slice a 3 cap, .int .i64 m] w fun e w' => e = .returned (.int .i64 (pr2 (cnt m zs 0) (cnt m zs 1))) ∧ Below w.heap.size w w' := by
  have hc0 := fun w h => l5Count_any a cap zs m 0 w h hl hm
  have hc1 := fun w h => l5Count_any a cap zs m 1 w h hl hm
  generalize cnt m zs 0 = z at *
  generalize cnt m zs 1 = o at *
  generalize hE : pr2 z o = E
  unfold pr2 at hE
  have h0 := hc0 w h
  clear hc0
  by_cases hz : 2 ≤ z
  · rw [if_pos hz] at hE
    have HE : Hid (E = 0) := hE.symm
    clear hc1 hE
    go_enter Tryd.func37, Tryd.ntmps37
    go_wp2
    refine wp_loop_rounds 1 ?_
    rw [rounds_succ]
    go_wp2_with fail
    refine h0.mono ?_
    rintro e w1 ⟨rfl, b1⟩
    clear h0
    go_wp2
    go_ret
    exact ⟨by rw [HE.out]; rfl, b1⟩
  · rw [if_neg hz] at hE
    have HE : Hid (E = if 2 ≤ o then 1 else 2) := hE.symm
    clear hE
    go_enter Tryd.func37, Tryd.ntmps37
    go_wp2
    refine wp_loop_rounds 3 ?_
    rw [rounds_succ]
    go_wp2_with fail
    refine h0.mono ?_
    rintro e w1 ⟨rfl, b1⟩
    have h1 := hc1 w1 (h.below b1)
    clear h0 hc1
    by_cases ho : 2 ≤ o
    · have HE2 : Hid (E = 1) := HE.out.trans (if_pos ho)
      clear HE
      go_wp2_with fail
      rw [rounds_succ]
      go_wp2_with fail
      refine h1.mono ?_
      rintro e w2 ⟨rfl, b2⟩
      replace b2 := b1.trans (b2.mono b1.size)
      clear h1
      go_wp2
      go_ret
      exact ⟨by rw [HE2.out]; rfl, b2⟩
    · have HE2 : Hid (E = 2) := HE.out.trans (if_neg ho)
      clear HE
      go_wp2_with fail
      rw [rounds_succ]
      go_wp2_with fail
      refine h1.mono ?_
      rintro e w2 ⟨rfl, b2⟩
      replace b2 := b1.trans (b2.mono b1.size)
      clear h1
      go_wp2
      rw [rounds_succ]
      go_wp2
      go_ret
      exact ⟨by rw [HE2.out]; rfl, b2⟩

end Go.Proofs.YtonkbpnchcgmmaaDoor

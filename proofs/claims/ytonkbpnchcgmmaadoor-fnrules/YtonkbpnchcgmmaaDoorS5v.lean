/- ProposalFor of the model. -/
import Derived.Test.YtonkbpnchcgmmaaDoorS5q
namespace Go.Proofs.YtonkbpnchcgmmaaDoor
open Go.RowKit
set_option linter.unusedVariables false
set_option linter.unusedSimpArgs false

set_option maxHeartbeats 1000000 in
theorem specProp_any (a : Option Addr) (cap : Nat) (zs : List Int) (m : Int) (w : World) (h : Row .i64 w a zs) (hm : zs.length ≤ 9223372036854775807) :
    Calls Tryd.prog 15 #[.slice a zs.length cap, .int .i64 m] w fun e w' => e = .returned (.agg #[.int .i64 (pfC zs m), .int .i64 (pfV zs m)]) ∧ Below w.heap.size w w' := by
  obtain ⟨C, hC⟩ : ∃ C, pfC zs m = C := ⟨_, rfl⟩
  obtain ⟨V, hV⟩ : ∃ V, pfV zs m = V := ⟨_, rfl⟩
  have HC : Hid (pfC zs m = C ∧ pfV zs m = V) := And.intro hC hV
  rw [hC, hV]
  clear hC hV
  have hB : Below w.heap.size w (w.alloc (.cells #[.int .i64 0, .int .i64 0] 28)) := by go_grown
  have Bx := Blk.new w 28 #[.int .i64 0, .int .i64 0]
  have hv := l5Votes_any a cap zs 1 _ (h.below hB) hm
  go_enter Tryd.func15, Tryd.ntmps15
  go_wp2_with fail
  generalize w.alloc (.cells #[.int .i64 0, .int .i64 0] 28) = W at *
  refine hv.mono ?_
  rintro e w1 ⟨rfl, hb⟩
  replace Bx := Bx.below hb
  replace hB := hB.trans (hb.mono hB.size)
  clear hv hb
  by_cases h0 : vf zs 1 = 0
  · have hl := vf_len h0
    have hh := l5Heard_any a cap zs m w1 (h.below hB) hl
    rw [h0, hl]
    by_cases h1 : heard zs m = true
    · have HE : Hid (C = 0 ∧ V = pr2 (cnt m zs 0) (cnt m zs 1)) := by
        obtain ⟨e1, e2⟩ := HC.out
        have e3 : pfC zs m = 0 := by simp [pfC, h0, h1]
        exact ⟨e1.symm.trans e3, e2.symm.trans (by simp [pfV, e3])⟩
      have hp := fun w h => l5Proposal_any a cap zs m w h hl (heard_in h1)
      rw [h1] at hh
      clear h0 hl h1 HC
      generalize pr2 (cnt m zs 0) (cnt m zs 1) = P at *
      go_wp2_with fail
      refine hh.mono ?_
      rintro e w2 ⟨rfl, hb⟩
      replace Bx := Bx.below hb
      replace hB := hB.trans (hb.mono hB.size)
      have hp2 := hp w2 (h.below hB)
      clear hh hb hp
      go_wp2_with fail
      refine hp2.mono ?_
      rintro e w3 ⟨rfl, hb⟩
      replace Bx := Bx.below hb
      replace hB := hB.trans (hb.mono hB.size)
      have p0 := Bx.cell 0 (.int .i64 0) rfl
      have p1 := Bx.cell 1 (.int .i64 0) rfl
      have f0 := Bx.frozen 0
      have f1 := Bx.frozen 1
      clear hp2 hb Bx
      go_wp2
      exact bodyPost_ret (v := .agg #[.int .i64 0, .int .i64 P]) (by simp [results, Tryd.results15, go_sem, p0, p1]) rfl ⟨by rw [HE.out.1, HE.out.2], (hB.setCell (p := ⟨w.heap.size, 0, none⟩) (Nat.le_refl _) _).setCell (p := ⟨w.heap.size, 1, none⟩) (Nat.le_refl _) _⟩
    · have h1' : heard zs m = false := by simpa using h1
      have HE : Hid (C = 10 ∧ V = 0) := by
        obtain ⟨e1, e2⟩ := HC.out
        have e3 : pfC zs m = 10 := by simp [pfC, h0, h1']
        exact ⟨e1.symm.trans e3, e2.symm.trans (by simp [pfV, e3])⟩
      rw [h1'] at hh
      clear h0 hl h1 HC
      go_wp2_with fail
      refine hh.mono ?_
      rintro e w2 ⟨rfl, hb⟩
      replace Bx := Bx.below hb
      replace hB := hB.trans (hb.mono hB.size)
      have p0 := Bx.cell 0 (.int .i64 0) rfl
      have p1 := Bx.cell 1 (.int .i64 0) rfl
      have f0 := Bx.frozen 0
      have f1 := Bx.frozen 1
      clear hh hb Bx
      go_wp2
      exact bodyPost_ret (v := .agg #[.int .i64 10, .int .i64 0]) (by simp [results, Tryd.results15, go_sem, p0, p1]) rfl ⟨by rw [HE.out.1, HE.out.2], (hB.setCell (p := ⟨w.heap.size, 0, none⟩) (Nat.le_refl _) _).setCell (p := ⟨w.heap.size, 1, none⟩) (Nat.le_refl _) _⟩
  · have HE : Hid (C = vf zs 1 ∧ V = 0) := by
      obtain ⟨e1, e2⟩ := HC.out
      have e3 : pfC zs m = vf zs 1 := by simp [pfC, h0]
      exact ⟨e1.symm.trans e3, e2.symm.trans (by simp [pfV, e3, h0])⟩
    have h0' : (vf zs 1 != 0) = true := by simpa using h0
    clear h0 HC
    generalize vf zs 1 = c at *
    have p0 := Bx.cell 0 (.int .i64 0) rfl
    have p1 := Bx.cell 1 (.int .i64 0) rfl
    have f0 := Bx.frozen 0
    have f1 := Bx.frozen 1
    clear Bx
    go_wp2
    exact bodyPost_ret (v := .agg #[.int .i64 c, .int .i64 0]) (by simp [results, Tryd.results15, go_sem, p0, p1]) rfl ⟨by rw [HE.out.1, HE.out.2], (hB.setCell (p := ⟨w.heap.size, 0, none⟩) (Nat.le_refl _) _).setCell (p := ⟨w.heap.size, 1, none⟩) (Nat.le_refl _) _⟩

end Go.Proofs.YtonkbpnchcgmmaaDoor

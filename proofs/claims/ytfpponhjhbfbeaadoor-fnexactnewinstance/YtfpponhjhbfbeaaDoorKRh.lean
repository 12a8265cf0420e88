/- What the helpers of the laws do with lists of rounds, in the form of kinds: are the marks still there? No condition. -/
import Derived.Test.YtfpponhjhbfbeaaDoorKRm
namespace Go.Proofs.YtfpponhjhbfbeaaDoor
open Go.RowKit
open Go.BigFrame
set_option linter.unusedVariables false
set_option linter.unusedSimpArgs false

set_option maxHeartbeats 2000000 in
theorem heldRounds_k (v : Value) (ps : List RoundQ) (c : Int) (w : World) (h : roundK.At w v (mkL mkRound nmRound c ps)) (hl : (ps.length + nmL RoundQ.n ps) ≤ 1048576) (h0 : 0 ≤ c) (h1 : c + (nmL nmRound ps : Int) ≤ 1099511627776) :
    Calls Tryd.prog 28 #[v, .int .i64 c] w fun e w' => e = .returned (.int .i64 (c + (nmL nmRound ps : Int))) ∧ Below w.heap.size w w' := by
  obtain ⟨a, cap, rfl⟩ := h.shape
  have hmk := mkL_length mkRound nmRound c ps
  rw [hmk] at h ⊢
  have HM : Hid ((mkL mkRound nmRound c ps).length = ps.length) := hmk
  clear hmk
  go_enter Tryd.func28, Tryd.ntmps28
  go_wp2
  go_loopw [1, 5] (fun j i wr => ∃ k : Nat, k ≤ ps.length ∧ j = .int .i64 (c + (nmL nmRound (ps.take k) : Int)) ∧ i = .int .i64 k ∧ Below w.heap.size w wr) (fun _ i _ => ps.length - (intOf i).toNat)
  case atStart => exact ⟨0, Nat.zero_le _, by simp [nmL], rfl, Below.refl _ _⟩
  case round =>
    obtain ⟨k, hk, rfl, rfl, hb⟩ := hrel
    by_cases hlt : k < ps.length
    · have hltm : k < (mkL mkRound nmRound c ps).length := by have := HM.out; omega
      obtain ⟨b, off, rfl, hbs, hc, hrd⟩ := (h.below hb).cell (by decide) k hltm
      rw [mkL_get mkRound nmRound c ps k hlt] at hc hrd
      have hsu := nmL_succ nmRound ps k hlt
      have hle := nmL_le nmRound ps (k + 1)
      have hzl := nm_le RoundQ.n ps k hlt
      have HSU : Hid ((nmL nmRound (ps.take (k + 1)) : Int) = (nmL nmRound (ps.take k) : Int) + (nmRound ps[k] : Int)) := show _ = _ by omega
      have hyb : (nmL nmRound (ps.take k) : Int) + (nmRound ps[k] : Int) ≤ nmL nmRound ps := by omega
      clear hsu hle h
      generalize hpk : ps[k] = p at *
      clear hpk
      obtain ⟨z_vr, d_rep, z_vp, d_pro⟩ := p
      dsimp only [nmRound, RoundQ.n] at HSU hyb hzl
      generalize hy : (nmL nmRound (ps.take k) : Int) = y at *
      have hy0 : 0 ≤ y := by omega
      clear hy
      have hc' : ∀ j x, (roundK.cells (mkRound (c + y) (⟨z_vr, d_rep, z_vp, d_pro⟩ : RoundQ)))[j]? = some x → wr.cell? ⟨b, off + k * 2 + j, none⟩ = some x := hc
      clear hc
      have c0 := hc' 0 (z_vr) rfl
      have c1 := hc' 1 (z_vp) rfl
      obtain ⟨r0, r1⟩ : intK.At wr z_vr (mkInts (c + y) d_rep) ∧ intK.At wr z_vp (mkInts (c + y + ((d_rep.length : Nat) : Int)) d_pro) := hrd
      have hh0 := fun w h => heldInts_k z_vr d_rep (c + y) w h (by omega) (by omega) (by omega)
      have hh1 := fun w h => heldInts_k z_vp d_pro (c + y + ((d_rep.length : Nat) : Int)) w h (by omega) (by omega) (by omega)
      obtain ⟨sa0, sc0, hsh0⟩ := r0.shape
      subst hsh0
      obtain ⟨sa1, sc1, hsh1⟩ := r1.shape
      subst hsh1
      rw [Nat.add_zero] at c0
      clear hc'
      have nn0 : ¬ (c + y + ((d_rep.length : Nat) : Int) < 0) := by omega
      go_wp2_with fail
      refine (hh0 wr r0).mono ?_
      rintro e w0 ⟨rfl, hb0⟩
      replace hb := hb.trans (hb0.mono hb.size)
      replace c1 := (hb0.cell (p := ⟨b, _, none⟩) (World.block_lt_of_cell? _ _ c1)).trans c1
      replace r1 := r1.below hb0
      clear hb0 hh0 c0
      have nn1 : ¬ (c + y + ((d_rep.length : Nat) : Int) + ((d_pro.length : Nat) : Int) < 0) := by omega
      go_wp2_with fail
      refine (hh1 w0 r1).mono ?_
      rintro e w1 ⟨rfl, hb1⟩
      replace hb := hb.trans (hb1.mono hb.size)
      clear hb1 hh1 c1
      go_wp2
      go_roundw
      case rel => exact ⟨k + 1, by omega, by rw [HSU.out]; congr 1; omega, by go_num, hb⟩
      case measure => simp [intOf]; omega
    · have hkl : k = ps.length := by omega
      subst hkl
      rw [List.take_length]
      go_wp2
      go_ret
      exact ⟨rfl, hb⟩

end Go.Proofs.YtfpponhjhbfbeaaDoor

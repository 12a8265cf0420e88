/- What the helpers of the laws do with lists of instances, in the form of kinds: are the marks still there? No condition. -/
import Derived.Test.YtmgkjcobdmdjmaaGreatDoorKIsm
import Derived.Test.YtmgkjcobdmdjmaaGreatDoorGH
namespace Go.Proofs.YtmgkjcobdmdjmaaGreatDoor
open Go.RowKit
open Go.BigFrame
set_option linter.unusedVariables false
set_option maxRecDepth 100000
set_option linter.unusedSimpArgs false

set_option maxHeartbeats 2000000 in
theorem heldInstances_k (v : Value) (ps : List InstQ) (c : Int) (w : World) (h : instK.At w v (mkL mkInsS nmInsS c ps)) (hl : (ps.length + nmL InstQ.n ps) ≤ 1048576) (h0 : 0 ≤ c) (h1 : c + (nmL nmInsS ps : Int) ≤ 1099511627776) :
    Calls Tryz.prog 111 #[v, .int .i64 c] w fun e w' => e = .returned (.int .i64 (c + (nmL nmInsS ps : Int))) ∧ Below w.heap.size w w' := by
  obtain ⟨a, cap, rfl⟩ := h.shape
  have hmk := mkL_length mkInsS nmInsS c ps
  rw [hmk] at h ⊢
  have HM : Hid ((mkL mkInsS nmInsS c ps).length = ps.length) := hmk
  clear hmk
  go_enter Tryz.func111, Tryz.ntmps111
  go_wp2
  go_loopw [1, 5] (fun j i wr => ∃ k : Nat, k ≤ ps.length ∧ j = .int .i64 (c + (nmL nmInsS (ps.take k) : Int)) ∧ i = .int .i64 k ∧ Below w.heap.size w wr) (fun _ i _ => ps.length - (intOf i).toNat)
  case atStart => exact ⟨0, Nat.zero_le _, by simp [nmL], rfl, Below.refl _ _⟩
  case round =>
    obtain ⟨k, hk, rfl, rfl, hb⟩ := hrel
    by_cases hlt : k < ps.length
    · have hltm : k < (mkL mkInsS nmInsS c ps).length := by have := HM.out; omega
      obtain ⟨b, off, rfl, hbs, hc, hrd⟩ := (h.below hb).cell (by decide) k hltm
      rw [mkL_get mkInsS nmInsS c ps k hlt] at hc hrd
      have hsu := nmL_succ nmInsS ps k hlt
      have hle := nmL_le nmInsS ps (k + 1)
      have hzl := nm_le InstQ.n ps k hlt
      have HSU : Hid ((nmL nmInsS (ps.take (k + 1)) : Int) = (nmL nmInsS (ps.take k) : Int) + (nmInsS ps[k] : Int)) := show _ = _ by omega
      have hyb : (nmL nmInsS (ps.take k) : Int) + (nmInsS ps[k] : Int) ≤ nmL nmInsS ps := by omega
      clear hsu hle h
      generalize hpk : ps[k] = p at *
      clear hpk
      obtain ⟨z_has, z_vb, d_batch, z_vr, d_rounds, z_vd, d_dec⟩ := p
      dsimp only [nmInsS, InstQ.n] at HSU hyb hzl
      generalize hy : (nmL nmInsS (ps.take k) : Int) = y at *
      have hy0 : 0 ≤ y := by omega
      clear hy
      have hc' : ∀ j x, (instK.cells (mkInsS (c + y) (⟨z_has, z_vb, d_batch, z_vr, d_rounds, z_vd, d_dec⟩ : InstQ)))[j]? = some x → wr.cell? ⟨b, off + k * 4 + j, none⟩ = some x := hc
      clear hc
      have c0 := hc' 0 (.bool ((c + y) % 3 == 0)) rfl
      have nb0 : (((c + y) % 3 == 0) != ((c + y) % 3 == 0)) = false := by simp
      have c1 := hc' 1 (z_vb) rfl
      have c2 := hc' 2 (z_vr) rfl
      have c3 := hc' 3 (z_vd) rfl
      obtain ⟨r1, r2, r3⟩ : txnK.At wr z_vb (mkTxns (c + y + 1) d_batch) ∧ roundK.At wr z_vr (mkRounds (c + y + 1 + ((nmL nmTxn d_batch : Nat) : Int)) d_rounds) ∧ intK.At wr z_vd (mkInts (c + y + 1 + ((nmL nmTxn d_batch : Nat) : Int) + ((nmL nmRound d_rounds : Nat) : Int)) d_dec) := hrd
      have hh1 := fun w h => heldTxns_k z_vb d_batch (c + y + 1) w h (by omega) (by omega) (by omega)
      have hh2 := fun w h => heldRounds_k z_vr d_rounds (c + y + 1 + ((nmL nmTxn d_batch : Nat) : Int)) w h (by omega) (by omega) (by omega)
      have hh3 := fun w h => heldInts_k z_vd d_dec (c + y + 1 + ((nmL nmTxn d_batch : Nat) : Int) + ((nmL nmRound d_rounds : Nat) : Int)) w h (by omega) (by omega) (by omega)
      obtain ⟨sa1, sc1, hsh1⟩ := r1.shape
      subst hsh1
      obtain ⟨sa2, sc2, hsh2⟩ := r2.shape
      subst hsh2
      obtain ⟨sa3, sc3, hsh3⟩ := r3.shape
      subst hsh3
      rw [Nat.add_zero] at c0
      clear hc'
      have nn1 : ¬ (c + y + 1 + ((nmL nmTxn d_batch : Nat) : Int) < 0) := by omega
      go_wp2_with fail
      refine (hh1 wr r1).mono ?_
      rintro e w1 ⟨rfl, hb1⟩
      replace hb := hb.trans (hb1.mono hb.size)
      replace c2 := (hb1.cell (p := ⟨b, _, none⟩) (World.block_lt_of_cell? _ _ c2)).trans c2
      replace c3 := (hb1.cell (p := ⟨b, _, none⟩) (World.block_lt_of_cell? _ _ c3)).trans c3
      replace r2 := r2.below hb1
      replace r3 := r3.below hb1
      clear hb1 hh1 c0 c1
      have nn2 : ¬ (c + y + 1 + ((nmL nmTxn d_batch : Nat) : Int) + ((nmL nmRound d_rounds : Nat) : Int) < 0) := by omega
      go_wp2_with fail
      refine (hh2 w1 r2).mono ?_
      rintro e w2 ⟨rfl, hb2⟩
      replace hb := hb.trans (hb2.mono hb.size)
      replace c3 := (hb2.cell (p := ⟨b, _, none⟩) (World.block_lt_of_cell? _ _ c3)).trans c3
      replace r3 := r3.below hb2
      clear hb2 hh2 c2
      have nn3 : ¬ (c + y + 1 + ((nmL nmTxn d_batch : Nat) : Int) + ((nmL nmRound d_rounds : Nat) : Int) + ((d_dec.length : Nat) : Int) < 0) := by omega
      go_wp2_with fail
      refine (hh3 w2 r3).mono ?_
      rintro e w3 ⟨rfl, hb3⟩
      replace hb := hb.trans (hb3.mono hb.size)
      clear hb3 hh3 c3
      go_wp2
      go_roundw
      case rel => exact ⟨k + 1, by omega, by rw [HSU.out]; congr 1; omega, by go_num, hb⟩
      case measure => simp [intOf]; omega
    · have hkl : k = ps.length := by omega
      subst hkl
      rw [List.take_length]
      go_wp2
      go_ret
      exact ⟨rfl, hb⟩

end Go.Proofs.YtmgkjcobdmdjmaaGreatDoor

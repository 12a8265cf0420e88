/- What the helpers of the laws do with lists of transactions, in the form of kinds: are the marks still there? No condition. -/
import Derived.Test.YtkkdjgiencilbaaKTm
namespace Go.Proofs.Ytkkdjgiencilbaa
open Go.RowKit
open Go.BigFrame
set_option linter.unusedVariables false
set_option linter.unusedSimpArgs false

set_option maxHeartbeats 2000000 in
theorem heldTxns_k (v : Value) (ps : List TxnQ) (c : Int) (w : World) (h : txnK.At w v (mkL mkTxn nmTxn c ps)) (hl : (ps.length + nmL TxnQ.n ps) ≤ 1048576) (h0 : 0 ≤ c) (h1 : c + (nmL nmTxn ps : Int) ≤ 1099511627776) :
    Calls Try.prog 52 #[v, .int .i64 c] w fun e w' => e = .returned (.int .i64 (c + (nmL nmTxn ps : Int))) ∧ Below w.heap.size w w' := by
  obtain ⟨a, cap, rfl⟩ := h.shape
  have hmk := mkL_length mkTxn nmTxn c ps
  rw [hmk] at h ⊢
  have HM : Hid ((mkL mkTxn nmTxn c ps).length = ps.length) := hmk
  clear hmk
  go_enter Try.func52, Try.ntmps52
  go_wp2
  go_loopw [1, 5] (fun j i wr => ∃ k : Nat, k ≤ ps.length ∧ j = .int .i64 (c + (nmL nmTxn (ps.take k) : Int)) ∧ i = .int .i64 k ∧ Below w.heap.size w wr) (fun _ i _ => ps.length - (intOf i).toNat)
  case atStart => exact ⟨0, Nat.zero_le _, by simp [nmL], rfl, Below.refl _ _⟩
  case round =>
    obtain ⟨k, hk, rfl, rfl, hb⟩ := hrel
    by_cases hlt : k < ps.length
    · have hltm : k < (mkL mkTxn nmTxn c ps).length := by have := HM.out; omega
      obtain ⟨b, off, rfl, hbs, hc, hrd⟩ := (h.below hb).cell (by decide) k hltm
      rw [mkL_get mkTxn nmTxn c ps k hlt] at hc hrd
      have hsu := nmL_succ nmTxn ps k hlt
      have hle := nmL_le nmTxn ps (k + 1)
      have hzl := nm_le TxnQ.n ps k hlt
      have HSU : Hid ((nmL nmTxn (ps.take (k + 1)) : Int) = (nmL nmTxn (ps.take k) : Int) + (nmTxn ps[k] : Int)) := show _ = _ by omega
      have hyb : (nmL nmTxn (ps.take k) : Int) + (nmTxn ps[k] : Int) ≤ nmL nmTxn ps := by omega
      clear hsu hle h
      generalize hpk : ps[k] = p at *
      clear hpk
      obtain ⟨z_i, z_s, z_q, z_va, d_acts⟩ := p
      dsimp only [nmTxn, TxnQ.n] at HSU hyb hzl
      generalize hy : (nmL nmTxn (ps.take k) : Int) = y at *
      have hy0 : 0 ≤ y := by omega
      clear hy
      have hc' : ∀ j x, (txnK.cells (mkTxn (c + y) (⟨z_i, z_s, z_q, z_va, d_acts⟩ : TxnQ)))[j]? = some x → wr.cell? ⟨b, off + k * 4 + j, none⟩ = some x := hc
      clear hc
      have c0 := hc' 0 (.int .i64 (c + y)) rfl
      have c1 := hc' 1 (.int .i64 (c + y + 1)) rfl
      have c2 := hc' 2 (.int .i64 (c + y + 1 + 1)) rfl
      have c3 := hc' 3 (z_va) rfl
      have r3 : actK.At wr z_va (mkActs (c + y + 1 + 1 + 1) d_acts) := hrd
      have hh3 := fun w h => heldActs_k z_va d_acts (c + y + 1 + 1 + 1) w h (by omega) (by omega) (by omega)
      obtain ⟨sa3, sc3, hsh3⟩ := r3.shape
      subst hsh3
      rw [Nat.add_zero] at c0
      clear hc'
      have nn3 : ¬ (c + y + 1 + 1 + 1 + ((d_acts.length * 3 : Nat) : Int) < 0) := by omega
      go_wp2_with fail
      refine (hh3 wr r3).mono ?_
      rintro e w3 ⟨rfl, hb3⟩
      replace hb := hb.trans (hb3.mono hb.size)
      clear hb3 hh3 c0 c1 c2 c3
      go_wp2
      go_roundw
      case rel => exact ⟨k + 1, by omega, by rw [HSU.out]; congr 1; omega, by go_num, hb⟩
      case measure => simp [intOf]; omega
    · have hkl : k = ps.length := by omega
      subst hkl
      rw [List.take_length]
      go_wp2
      go_ret
      exact ⟨rfl, hb⟩

end Go.Proofs.Ytkkdjgiencilbaa

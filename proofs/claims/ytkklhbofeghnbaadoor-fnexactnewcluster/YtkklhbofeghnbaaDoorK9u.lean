/- What the helpers of the laws do with lists of lists of undos, in the form of kinds: count, compare, copy. No condition. -/
import Derived.Test.YtkklhbofeghnbaaDoorK9
namespace Go.Proofs.YtkklhbofeghnbaaDoor
open Go.RowKit
open Go.BigFrame
set_option linter.unusedVariables false
set_option linter.unusedSimpArgs false

theorem eqUs_k (p p' : USQ) (w : World) (h : ussK.rd w p) (h' : ussK.rd w p') (he : p.e = p'.e) (hl : USQ.n p ≤ 1048576) :
    Calls Tryd.prog 57 #[p.va, p'.va] w fun e w' => e = .returned (.bool true) ∧ Below w.heap.size w w' := by
  obtain ⟨va, us⟩ := p
  obtain ⟨va', us'⟩ := p'
  have he : us = us' := he
  subst he
  exact eqUndos_k va va' us w h h' hl

set_option maxHeartbeats 2000000 in
theorem eqUss_k (v v' : Value) (ps qs : List USQ) (w : World) (h : ussK.At w v ps) (h' : ussK.At w v' qs) (he : ps.map USQ.e = qs.map USQ.e) (hl : (ps.length + nmL USQ.n ps) ≤ 1048576) :
    Calls Tryd.prog 54 #[v, v'] w fun e w' => e = .returned (.bool true) ∧ Below w.heap.size w w' := by
  obtain ⟨a, cap, rfl⟩ := h.shape
  obtain ⟨a', cap', rfl⟩ := h'.shape
  have hlen : qs.length = ps.length := by
    have := congrArg List.length he
    simpa using this.symm
  rw [hlen] at h' ⊢
  have HL : Hid (qs.length = ps.length) := hlen
  clear hlen
  go_enter Tryd.func54, Tryd.ntmps54
  go_wp2
  go_loopw [5] (fun i wr => ∃ k : Nat, k ≤ ps.length ∧ i = .int .i64 k ∧ Below w.heap.size w wr) (fun i _ => ps.length - (intOf i).toNat)
  case atStart => exact ⟨0, Nat.zero_le _, rfl, Below.refl _ _⟩
  case round =>
    obtain ⟨k, hk, rfl, hb⟩ := hrel
    by_cases hlt : k < ps.length
    · have hlt' : k < qs.length := by have := HL.out; omega
      obtain ⟨b, off, rfl, hbs, hc, hrd⟩ := (h.below hb).cell (by decide) k hlt
      obtain ⟨b', off', rfl, hbs', hd, hrd'⟩ := (h'.below hb).cell (by decide) k hlt'
      have hc' : ∀ j x, (ussK.cells ps[k])[j]? = some x → wr.cell? ⟨b, off + k + j, none⟩ = some x := fun j x hx => by have := hc j x hx; rwa [show k * ussK.size = k from Nat.mul_one k] at this
      have hd' : ∀ j x, (ussK.cells qs[k])[j]? = some x → wr.cell? ⟨b', off' + k + j, none⟩ = some x := fun j x hx => by have := hd j x hx; rwa [show k * ussK.size = k from Nat.mul_one k] at this
      have c0 := hc' 0 (ps[k].va) rfl
      have d0 := hd' 0 (qs[k].va) rfl
      have hee : USQ.e ps[k] = USQ.e qs[k] := by
        have := congrArg (·[k]?) he
        simpa [hlt, hlt'] using this
      have hzl := nm_le USQ.n ps k hlt
      clear hc hc' hd hd'
      generalize ps[k] = p at *
      generalize qs[k] = p' at *
      have hEQ := fun w h1 h2 => eqUs_k p p' w h1 h2 hee (show USQ.n p ≤ 1048576 by omega)
      clear hee hzl
      rw [Nat.add_zero] at c0 d0
      have k0 := lat_cell c0
      have l0 := lat_cell d0
      clear c0 d0
      have hW : Below wr.heap.size wr wr.drew := (Below.refl _ _).drew
      have hne : Nonempty (Lat wr) := ⟨⟨wr, Below.refl _ _⟩⟩
      go_wp2_with fail
      refine text_begin (S := fun w' => ∃ u : Lat wr, w' = u.val) (by kernel_rfl) ?_
      refine sgr [(0, 8)] 2 (by kernel_rfl) ⟨⟨_, hW⟩, rfl⟩ ?_
      simp only [pkE]
      repeat go_big_quiet_step (fail)
      refine wpQuiet_nil ?_
      refine cla 8 (some 25) 57 #[p.va, p'.va] 1 (by kernel_rfl) ?_
      refine (hEQ _ (ussK.rd_below hrd hW) (ussK.rd_below hrd' hW)).mono ?_
      rintro e w2 ⟨rfl, hb2⟩
      replace hW := hW.trans (hb2.mono hW.size)
      clear hb2
      refine ⟨_, rfl, ⟨⟨_, hW⟩, rfl⟩, ?_⟩
      simp only [Act.put, pjE]
      refine sgr [(9, 1)] 0 (by kernel_rfl) ⟨⟨_, hW⟩, rfl⟩ ?_
      simp only [pkE]
      repeat go_big_quiet_step (fail)
      refine wpQuiet_nil ?_
      refine text_end (by kernel_rfl) ?_
      replace hb := hb.trans (hW.mono hb.size)
      clear k0 l0 hW hne hrd hrd' hEQ
      go_wp2
      go_roundw
      case rel => exact ⟨k + 1, by omega, by go_num, hb⟩
      case measure => simp [intOf]; omega
    · go_wp2
      go_ret
      exact ⟨rfl, hb⟩

end Go.Proofs.YtkklhbofeghnbaaDoor

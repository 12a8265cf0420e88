/- What the helpers of the laws do with lists of instances, in the form of kinds: count, compare, copy. No condition. -/
import Derived.Test.YtkklhbofeghnbaaDoorKI
namespace Go.Proofs.YtkklhbofeghnbaaDoor
open Go.RowKit
open Go.BigFrame
set_option linter.unusedVariables false
set_option linter.unusedSimpArgs false

theorem infoInstance : (Tryd.prog.info? 39).map (fun i => (i.zero, i.size, i.bytes)) = some (some (.agg #[.bool false, .slice none 0 0, .slice none 0 0, .slice none 0 0]), 4, 80) := by kernel_rfl

set_option maxHeartbeats 2000000 in
theorem eqInstances_k (v v' : Value) (ps qs : List InstQ) (w : World) (h : instK.At w v ps) (h' : instK.At w v' qs) (he : ps.map InstQ.e = qs.map InstQ.e) (hl : (ps.length + nmL InstQ.n ps) ≤ 1048576) :
    Calls Tryd.prog 17 #[v, v'] w fun e w' => e = .returned (.bool true) ∧ Below w.heap.size w w' := by
  obtain ⟨a, cap, rfl⟩ := h.shape
  obtain ⟨a', cap', rfl⟩ := h'.shape
  have hlen : qs.length = ps.length := by
    have := congrArg List.length he
    simpa using this.symm
  rw [hlen] at h' ⊢
  have HL : Hid (qs.length = ps.length) := hlen
  clear hlen
  go_enter Tryd.func17, Tryd.ntmps17
  go_wp2
  go_loopw [5] (fun i wr => ∃ k : Nat, k ≤ ps.length ∧ i = .int .i64 k ∧ Below w.heap.size w wr) (fun i _ => ps.length - (intOf i).toNat)
  case atStart => exact ⟨0, Nat.zero_le _, rfl, Below.refl _ _⟩
  case round =>
    obtain ⟨k, hk, rfl, hb⟩ := hrel
    by_cases hlt : k < ps.length
    · have hlt' : k < qs.length := by have := HL.out; omega
      obtain ⟨b, off, rfl, hbs, hc, hrd⟩ := (h.below hb).cell (by decide) k hlt
      obtain ⟨b', off', rfl, hbs', hd, hrd'⟩ := (h'.below hb).cell (by decide) k hlt'
      have hc' : ∀ j x, (instK.cells ps[k])[j]? = some x → wr.cell? ⟨b, off + k * 4 + j, none⟩ = some x := hc
      have hd' : ∀ j x, (instK.cells qs[k])[j]? = some x → wr.cell? ⟨b', off' + k * 4 + j, none⟩ = some x := hd
      have c0 := hc' 0 (.bool ps[k].has) rfl
      have d0 := hd' 0 (.bool qs[k].has) rfl
      have c1 := hc' 1 (ps[k].vb) rfl
      have d1 := hd' 1 (qs[k].vb) rfl
      have c2 := hc' 2 (ps[k].vr) rfl
      have d2 := hd' 2 (qs[k].vr) rfl
      have c3 := hc' 3 (ps[k].vd) rfl
      have d3 := hd' 3 (qs[k].vd) rfl
      have hee : InstQ.e ps[k] = InstQ.e qs[k] := by
        have := congrArg (·[k]?) he
        simpa [hlt, hlt'] using this
      have hzl := nm_le InstQ.n ps k hlt
      clear hc hc' hd hd'
      generalize ps[k] = p at *
      generalize qs[k] = p' at *
      have hEQ := fun w h1 h2 => eqInstance_k p p' w h1 h2 hee (show InstQ.n p ≤ 1048576 by omega)
      clear hee hzl
      rw [Nat.add_zero] at c0 d0
      have k0 := lat_cell c0
      have l0 := lat_cell d0
      have k1 := lat_cell c1
      have l1 := lat_cell d1
      have k2 := lat_cell c2
      have l2 := lat_cell d2
      have k3 := lat_cell c3
      have l3 := lat_cell d3
      clear c0 d0 c1 d1 c2 d2 c3 d3
      have hW : Below wr.heap.size wr wr.drew := (Below.refl _ _).drew
      have hne : Nonempty (Lat wr) := ⟨⟨wr, Below.refl _ _⟩⟩
      go_wp2_with fail
      refine text_begin (S := fun w' => ∃ u : Lat wr, w' = u.val) (by kernel_rfl) ?_
      refine sgr [(0, 8)] 2 (by kernel_rfl) ⟨⟨_, hW⟩, rfl⟩ ?_
      simp only [pkE]
      repeat go_big_quiet_step (fail)
      refine wpQuiet_nil ?_
      refine cla 8 (some 25) 28 #[.agg #[.bool p.has, p.vb, p.vr, p.vd], .agg #[.bool p'.has, p'.vb, p'.vr, p'.vd]] 1 (by kernel_rfl) ?_
      refine (hEQ _ (instK.rd_below hrd hW) (instK.rd_below hrd' hW)).mono ?_
      rintro e w2 ⟨rfl, hb2⟩
      replace hW := hW.trans (hb2.mono hW.size)
      clear hb2
      refine ⟨_, rfl, ⟨⟨_, hW⟩, rfl⟩, ?_⟩
      simp only [Act.put, pjE]
      refine sgr [(9, 1)] 0 (by kernel_rfl) ⟨⟨_, hW⟩, rfl⟩ ?_
      simp only [pkE]
      repeat go_big_quiet_step (fail)
      refine wpQuiet_nil ?_
      refine text_end (by kernel_rfl) ?_
      replace hb := hb.trans (hW.mono hb.size)
      clear k0 l0 k1 l1 k2 l2 k3 l3 hW hne hrd hrd' hEQ
      go_wp2
      go_roundw
      case rel => exact ⟨k + 1, by omega, by go_num, hb⟩
      case measure => simp [intOf]; omega
    · go_wp2
      go_ret
      exact ⟨rfl, hb⟩

end Go.Proofs.YtkklhbofeghnbaaDoor

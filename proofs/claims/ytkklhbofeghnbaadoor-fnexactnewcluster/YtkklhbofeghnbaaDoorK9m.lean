/- What the helpers of the laws do with lists of lists of undos, in the form of kinds: mark, and are the marks still there? No condition. -/
import Derived.Test.YtkklhbofeghnbaaDoorK9u
namespace Go.Proofs.YtkklhbofeghnbaaDoor
open Go.RowKit
open Go.BigFrame
set_option linter.unusedVariables false
set_option linter.unusedSimpArgs false

def mkUs (c : Int) (p : USQ) : USQ := ⟨p.va, mkUndos (c) p.us⟩
def nmUs (p : USQ) : Nat := p.us.length * 3
theorem mkUs_foot (c : Int) (p : USQ) : ussK.foot (mkUs c p) = ussK.foot p := by
  simp only [mkUs, show ∀ p : USQ, ussK.foot p = undoK.fp p.va p.us from fun _ => rfl, mkUndos_fp]

set_option maxHeartbeats 4000000 in
theorem markUss_k (v : Value) (ps : List USQ) (c : Int) (w : World) (h : ussK.Own w v ps) (hnd : (ussK.fp v ps).Nodup) (hl : (ps.length + nmL USQ.n ps) ≤ 1048576) (h0 : 0 ≤ c) (h1 : c + (nmL nmUs ps : Int) ≤ 1099511627776) :
    Calls Tryd.prog 34 #[v, .int .i64 c] w fun e w' => e = .returned (.int .i64 (c + (nmL nmUs ps : Int))) ∧ ussK.Own w' v (mkL mkUs nmUs c ps) ∧ Out (ussK.fp v ps) w w' := by
  obtain ⟨a, cap, rfl⟩ := h.shape
  have hfph : ∀ k, k ≤ ps.length → ussK.fp (.slice a ps.length cap) (half mkUs nmUs c ps k) = ussK.fp (.slice a ps.length cap) ps := fun k hk => fp_half mkUs_foot _ c ps k
  have HF : Hid (∀ k, k ≤ ps.length → ussK.fp (.slice a ps.length cap) (half mkUs nmUs c ps k) = ussK.fp (.slice a ps.length cap) ps) := hfph
  have HA : Hid (ussK.Own w (.slice a ps.length cap) (half mkUs nmUs c ps 0)) := by rw [half_zero]; exact h
  clear hfph h
  go_enter Tryd.func34, Tryd.ntmps34
  go_wp2
  go_loopw [1, 5] (fun j i wr => ∃ k : Nat, k ≤ ps.length ∧ j = .int .i64 (c + (nmL nmUs (ps.take k) : Int)) ∧ i = .int .i64 k ∧ Hid (ussK.Own wr (.slice a ps.length cap) (half mkUs nmUs c ps k)) ∧ Hid (Out (ussK.fp (.slice a ps.length cap) ps) w wr)) (fun _ i _ => ps.length - (intOf i).toNat)
  case atStart => exact ⟨0, Nat.zero_le _, by simp [nmL], rfl, HA, Out.refl _ _⟩
  case round =>
    clear HA
    obtain ⟨k, hk, rfl, rfl, HO, HU⟩ := hrel
    by_cases hlt : k < ps.length
    · have hhl : (half mkUs nmUs c ps k).length = ps.length := half_length _ _ _ _ _ hk
      have hO := HO.out
      obtain ⟨g, rfl⟩ := hO.blkOf (by omega)
      have hndk : (ussK.fp (.slice (some ⟨g, 0, none⟩) ps.length cap) (half mkUs nmUs c ps k)).Nodup := by rw [HF.out k hk]; exact hnd
      have hsub : Hid (∀ x ∈ ussK.foot ps[k], x ∈ ussK.fp (.slice (some ⟨g, 0, none⟩) ps.length cap) ps) := fun x hx => by
        simp only [Kind.fp, List.mem_append, List.mem_flatMap]
        exact Or.inr ⟨_, List.getElem_mem hlt, hx⟩
      have hg0 : Hid (∀ x ∈ [g], x ∈ ussK.fp (.slice (some ⟨g, 0, none⟩) ps.length cap) ps) := fun x hx => by
        simp only [List.mem_singleton] at hx
        subst hx
        simp [Kind.fp, blk, Value.ownBlock]
      have hltH : k < (half mkUs nmUs c ps k).length := by omega
      have hget := half_get mkUs nmUs c ps k hlt
      have hOk : ussK.Own wr (.slice (some ⟨g, 0, none⟩) ps.length cap) ((half mkUs nmUs c ps k).set k ps[k]) := by
        have e : (half mkUs nmUs c ps k).set k ps[k] = half mkUs nmUs c ps k := by
          rw [← hget, List.set_getElem_self]
        rw [e]; exact hO
      have hnk : (ussK.fp (.slice (some ⟨g, 0, none⟩) ps.length cap) ((half mkUs nmUs c ps k).set k ps[k])).Nodup := by
        have e : (half mkUs nmUs c ps k).set k ps[k] = half mkUs nmUs c ps k := by
          rw [← hget, List.set_getElem_self]
        rw [e]; exact hndk
      clear hget hO hndk
      have hset := half_set mkUs nmUs c ps k hlt
      have hsu := nmL_succ nmUs ps k hlt
      have hle := nmL_le nmUs ps (k + 1)
      have hzl := nm_le USQ.n ps k hlt
      have HSU : Hid ((nmL nmUs (ps.take (k + 1)) : Int) = (nmL nmUs (ps.take k) : Int) + (nmUs ps[k] : Int)) := show _ = _ by omega
      have hyb : (nmL nmUs (ps.take k) : Int) + (nmUs ps[k] : Int) ≤ nmL nmUs ps := by omega
      have HSET : Hid ((half mkUs nmUs c ps k).set k (mkUs (c + (nmL nmUs (ps.take k) : Int)) ps[k]) = half mkUs nmUs c ps (k + 1)) := hset
      clear hset hsu hle HO
      generalize half mkUs nmUs c ps k = hs at *
      generalize hpk : ps[k] = p at *
      clear hpk
      obtain ⟨z_va, d_us⟩ := p
      have hkL : k < hs.length := hltH
      dsimp only [nmUs, USQ.n] at HSU hyb hzl
      generalize hy : (nmL nmUs (ps.take k) : Int) = y at *
      have hy0 : 0 ≤ y := by omega
      clear hy
      obtain ⟨c0, f0⟩ := hOk.cell' hkL 0 (z_va) rfl
      rw [show k * ussK.size + 0 = k from by show k * 1 + 0 = k; omega] at c0 f0
      have he0 := hOk.elem' hkL
      have hl0 : undoK.Own wr z_va d_us := he0
      have hmk := markUndos_k z_va d_us (c + y) _ hl0  (by omega) (by omega) (by omega)
      obtain ⟨sa0, sc0, hsh0⟩ := hl0.shape
      subst hsh0

      clear he0 hl0
      go_wp2_with fail
      refine hmk.mono ?_
      rintro e w20 ⟨rfl, hm0, ho0⟩
      clear hmk
      obtain ⟨hOn, hnn⟩ := hOk.turn' hnk hkL (⟨.slice sa0 d_us.length sc0, mkUndos (c + y) d_us⟩ : USQ) ho0 (fun x hx => hx) rfl (by exact mkUndos_fp _ _ _) (hm0)
      have HU : Hid (Out (ussK.fp (.slice (some ⟨g, 0, none⟩) ps.length cap) ps) w w20) := HU.out.trans (ho0.mono (fun x hx => hsub.out x (show x ∈ ussK.foot _ from (fun x hx => hx) x hx)))
      have hOk := hOn
      have hnk := hnn
      have R : Hid (ussK.Own w20 (.slice (some ⟨g, 0, none⟩) ps.length cap) (half mkUs nmUs c ps (k + 1))) := by rw [← HSET.out]; exact hOk
      clear hOk hnk HSET hsub hg0
      go_wp2
      go_roundw
      case rel => exact ⟨k + 1, by omega, by rw [HSU.out]; congr 1; omega, by go_num, R.out, HU.out⟩
      case measure => simp [intOf]; omega
    · have hkl : k = ps.length := by omega
      subst hkl
      have hO := HO.out
      rw [half_all] at hO
      rw [List.take_length]
      clear HF HO
      go_wp2
      go_ret
      exact ⟨rfl, hO, HU.out⟩

set_option maxHeartbeats 2000000 in
theorem heldUss_k (v : Value) (ps : List USQ) (c : Int) (w : World) (h : ussK.At w v (mkL mkUs nmUs c ps)) (hl : (ps.length + nmL USQ.n ps) ≤ 1048576) (h0 : 0 ≤ c) (h1 : c + (nmL nmUs ps : Int) ≤ 1099511627776) :
    Calls Tryd.prog 39 #[v, .int .i64 c] w fun e w' => e = .returned (.int .i64 (c + (nmL nmUs ps : Int))) ∧ Below w.heap.size w w' := by
  obtain ⟨a, cap, rfl⟩ := h.shape
  have hmk := mkL_length mkUs nmUs c ps
  rw [hmk] at h ⊢
  have HM : Hid ((mkL mkUs nmUs c ps).length = ps.length) := hmk
  clear hmk
  go_enter Tryd.func39, Tryd.ntmps39
  go_wp2
  go_loopw [1, 5] (fun j i wr => ∃ k : Nat, k ≤ ps.length ∧ j = .int .i64 (c + (nmL nmUs (ps.take k) : Int)) ∧ i = .int .i64 k ∧ Below w.heap.size w wr) (fun _ i _ => ps.length - (intOf i).toNat)
  case atStart => exact ⟨0, Nat.zero_le _, by simp [nmL], rfl, Below.refl _ _⟩
  case round =>
    obtain ⟨k, hk, rfl, rfl, hb⟩ := hrel
    by_cases hlt : k < ps.length
    · have hltm : k < (mkL mkUs nmUs c ps).length := by have := HM.out; omega
      obtain ⟨b, off, rfl, hbs, hc, hrd⟩ := (h.below hb).cell (by decide) k hltm
      rw [mkL_get mkUs nmUs c ps k hlt] at hc hrd
      have hsu := nmL_succ nmUs ps k hlt
      have hle := nmL_le nmUs ps (k + 1)
      have hzl := nm_le USQ.n ps k hlt
      have HSU : Hid ((nmL nmUs (ps.take (k + 1)) : Int) = (nmL nmUs (ps.take k) : Int) + (nmUs ps[k] : Int)) := show _ = _ by omega
      have hyb : (nmL nmUs (ps.take k) : Int) + (nmUs ps[k] : Int) ≤ nmL nmUs ps := by omega
      clear hsu hle h
      generalize hpk : ps[k] = p at *
      clear hpk
      obtain ⟨z_va, d_us⟩ := p
      dsimp only [nmUs, USQ.n] at HSU hyb hzl
      generalize hy : (nmL nmUs (ps.take k) : Int) = y at *
      have hy0 : 0 ≤ y := by omega
      clear hy
      have hc' : ∀ j x, (ussK.cells (mkUs (c + y) (⟨z_va, d_us⟩ : USQ)))[j]? = some x → wr.cell? ⟨b, off + k + j, none⟩ = some x := fun j x hx => by have := hc j x hx; rwa [show k * ussK.size = k from Nat.mul_one k] at this
      clear hc
      have c0 := hc' 0 (z_va) rfl
      have r0 : undoK.At wr z_va (mkUndos (c + y) d_us) := hrd
      have hh0 := fun w h => heldUndos_k z_va d_us (c + y) w h (by omega) (by omega) (by omega)
      obtain ⟨sa0, sc0, hsh0⟩ := r0.shape
      subst hsh0
      rw [Nat.add_zero] at c0
      clear hc'
      have nn0 : ¬ (c + y + ((d_us.length * 3 : Nat) : Int) < 0) := by omega
      go_wp2_with fail
      refine (hh0 wr r0).mono ?_
      rintro e w0 ⟨rfl, hb0⟩
      replace hb := hb.trans (hb0.mono hb.size)
      clear hb0 hh0 c0
      go_wp2
      go_roundw
      case rel => exact ⟨k + 1, by omega, by rw [HSU.out]; congr 1; omega, by go_num, hb⟩
      case measure => simp [intOf]; omega
    · have hkl : k = ps.length := by omega
      subst hkl
      rw [List.take_length]
      go_wp2
      go_ret
      exact ⟨rfl, hb⟩

end Go.Proofs.YtkklhbofeghnbaaDoor

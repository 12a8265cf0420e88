/- DecidedIn, of the program and of its model. -/
import Derived.Test.YtjnkldlkbjldcaaGreatDoorO7
namespace Go.Proofs.YtjnkldlkbjldcaaGreatDoor
open Go.RowKit
open Go.BigFrame
set_option linter.unusedVariables false
set_option maxRecDepth 100000
set_option linter.unusedSimpArgs false

def diV (ds : List InstE) : Int := if ordF ds = 0 then (decN ds : Int) else 0
theorem last_at (ps : List InstQ) (hlt : ps.length - 1 < ps.length) : lastE (ps.map InstQ.e) = InstQ.e ps[ps.length - 1] := by
  unfold lastE
  rw [List.length_map]
  exact inst_at ps _ hlt

set_option maxHeartbeats 4000000 in
theorem implDecidedIn_any (v : Value) (ps : List InstQ) (w : World) (hG : Rul w) (h : instK.At w v ps) (hl : (ps.length + nmL InstQ.n ps) ≤ 1048576) :
    Calls Tryz.prog 66 #[v] w fun e w' => e = .returned (.agg #[.int .i64 (ordF (ps.map InstQ.e)), .int .i64 (diV (ps.map InstQ.e))]) ∧ Below w.heap.size w w' := by
  have hof := fun w hG h => implOrderFault_any v ps w hG h hl
  have HO : Hid (ordF (ps.map InstQ.e) = 0 → 1 ≤ ps.length ∧ ps.length ≤ 4 ∧ ∀ q ∈ ps, insF (InstQ.e q) = 0) := fun h0 => by
    have := ((ord_iff _).1 h0).1
    rw [List.length_map] at this
    exact ⟨this.1, this.2, fun q hq => ord_mem h0 _ (List.mem_map.2 ⟨q, hq, rfl⟩)⟩
  have HV : Hid ((ordF (ps.map InstQ.e) = 0 → diV (ps.map InstQ.e) = (decN (ps.map InstQ.e) : Int)) ∧ (ordF (ps.map InstQ.e) ≠ 0 → diV (ps.map InstQ.e) = 0)) := ⟨fun h0 => if_pos h0, fun h0 => if_neg h0⟩
  obtain ⟨a, cap, rfl⟩ := h.shape
  generalize ordF (ps.map InstQ.e) = C at *
  generalize diV (ps.map InstQ.e) = V at *
  have hB : Below w.heap.size w (w.alloc (.cells #[.int .i64 0, .int .i64 0] 71)) := by go_grown
  have Rb := Blk.new w 71 #[.int .i64 0, .int .i64 0]
  go_enter Tryz.func66, Tryz.ntmps66
  go_wp2_with fail
  generalize w.alloc (.cells #[.int .i64 0, .int .i64 0] 71) = W at *
  refine (hof W (hG.below hB) (h.below hB)).mono ?_
  rintro e w1 ⟨rfl, hb⟩
  replace hB := hB.trans (hb.mono hB.size)
  replace Rb := Rb.below hb
  clear hb hof
  by_cases hC : C = 0
  · obtain ⟨h1, h4, hin⟩ := HO.out hC
    have hv := HV.out.1 hC
    subst hC
    have hlt : ps.length - 1 < ps.length := by omega
    have hin2 := hin _ (List.getElem_mem hlt)
    have hoc := oc_eq (InstQ.e ps[ps.length - 1])
    have HV3 : Hid (outV (InstQ.e ps[ps.length - 1]).dec = 3 → V = (ps.length : Int) - 1) := fun h3 => by
      rw [hv]
      unfold decN
      rw [last_at ps hlt, if_pos h3, List.length_map]
      omega
    have HVn : Hid (outV (InstQ.e ps[ps.length - 1]).dec ≠ 3 → V = (ps.length : Int)) := fun h3 => by
      rw [hv]
      unfold decN
      rw [last_at ps hlt, if_neg h3, List.length_map]
    rw [hin2] at hoc
    have hn : InstQ.n ps[ps.length - 1] ≤ 1048576 := by have := nmI_le ps _ hlt; omega
    have hho0 := hasOutcome_any ps[ps.length - 1]
    have hho := fun w hG h => hho0 w hG h hn
    clear hho0 hin hin2 hv HV HO hn
    obtain ⟨b, off, rfl, hbs, hc, hrd⟩ := (h.below hB).cell (by decide) (ps.length - 1) hlt
    have hc' : ∀ j x, (instK.cells ps[ps.length - 1])[j]? = some x → w1.cell? ⟨b, off + (ps.length - 1) * 4 + j, none⟩ = some x := hc
    have c0 := hc' 0 (.bool ps[ps.length - 1].has) rfl
    have c1 := hc' 1 ps[ps.length - 1].vb rfl
    have c2 := hc' 2 ps[ps.length - 1].vr rfl
    have c3 := hc' 3 ps[ps.length - 1].vd rfl
    rw [Nat.add_zero] at c0
    clear hc hc'
    have hidx : ((ps.length : Int) - 1).toNat = ps.length - 1 := by omega
    generalize ocC (InstQ.e ps[ps.length - 1]) = OC at *
    generalize outV (InstQ.e ps[ps.length - 1]).dec = OV at *
    generalize ps[ps.length - 1] = p at *
    generalize hm : ps.length - 1 = m at *
    have hpl : (ps.length : Int) - 1 = (m : Int) := by omega
    have hpl2 : ps.length = m + 1 := by omega
    rw [hpl] at HV3
    rw [hpl2] at h4 HVn ⊢
    rw [hpl2] at *
    clear hm hidx hpl hpl2
    obtain ⟨has, vb, batch, vr, rounds, vd, dec⟩ := p
    obtain ⟨ba, bk, rfl⟩ : ∃ a c, vb = .slice a batch.length c := hrd.1.shape
    obtain ⟨va, vk, rfl⟩ : ∃ a c, vr = .slice a rounds.length c := hrd.2.1.shape
    obtain ⟨da, dk, rfl⟩ : ∃ a c, vd = .slice a dec.length c := hrd.2.2.shape
    dsimp only at c0 c1 c2 c3 hho
    have q0 := Rb.cell 0 _ rfl
    have q1 := Rb.cell 1 _ rfl
    have f0 := Rb.frozen 0
    have f1 := Rb.frozen 1
    clear q0 q1 f0 f1
    go_wp2_with fail
    refine (hho w1 (hG.below hB) hrd).mono ?_
    rintro e w3 ⟨rfl, hb3⟩
    replace hB := hB.trans (hb3.mono hB.size)
    replace Rb := Rb.below hb3
    have q0 := Rb.cell 0 _ rfl
    have q1 := Rb.cell 1 _ rfl
    have f0 := Rb.frozen 0
    have f1 := Rb.frozen 1
    clear hb3 hho c0 c1 c2 c3
    by_cases hO : OV = 3
    · have e1 : (OC == 0) = false := by rw [hoc, hO]; rfl
      have E1 : Hid (V = (m : Int)) := HV3.out hO
      clear hoc HV3 HVn
      go_wp2
      exact bodyPost_ret (v := .agg #[.int .i64 0, .int .i64 m]) (by simp [results, Tryz.results66, go_sem, q0, q1]) rfl ⟨by rw [E1.out], (hB.setCell (p := ⟨w.heap.size, 0, none⟩) (Nat.le_refl _) _).setCell (p := ⟨w.heap.size, 1, none⟩) (Nat.le_refl _) _⟩
    · have e1 : (OC == 0) = true := by
        rw [hoc]
        have : (OV != 3) = true := by simpa using hO
        rw [this]; rfl
      have E1 : Hid (V = (m : Int) + 1) := by have := HVn.out hO; exact this.trans (by omega)
      clear hoc HV3 HVn
      go_wp2
      exact bodyPost_ret (v := .agg #[.int .i64 0, .int .i64 ((m : Int) + 1)]) (by simp [results, Tryz.results66, go_sem, q0, q1]) rfl ⟨by rw [E1.out], (hB.setCell (p := ⟨w.heap.size, 0, none⟩) (Nat.le_refl _) _).setCell (p := ⟨w.heap.size, 1, none⟩) (Nat.le_refl _) _⟩
  · have E1 : Hid (V = 0) := HV.out.2 hC
    have hC' : (C != 0) = true := by simpa using hC
    have q0 := Rb.cell 0 _ rfl
    have q1 := Rb.cell 1 _ rfl
    have f0 := Rb.frozen 0
    have f1 := Rb.frozen 1
    clear HV HO
    go_wp2
    exact bodyPost_ret (v := .agg #[.int .i64 C, .int .i64 0]) (by simp [results, Tryz.results66, go_sem, q0, q1]) rfl ⟨by rw [E1.out], (hB.setCell (p := ⟨w.heap.size, 0, none⟩) (Nat.le_refl _) _).setCell (p := ⟨w.heap.size, 1, none⟩) (Nat.le_refl _) _⟩

set_option maxHeartbeats 4000000 in
theorem l7Decided_any (v : Value) (ps : List InstQ) (w : World) (h : instK.At w v ps) (hl : (ps.length + nmL InstQ.n ps) ≤ 1048576) (h1 : 1 ≤ ps.length) (h4 : ps.length ≤ 4) :
    Calls Tryz.prog 145 #[v] w fun e w' => e = .returned (.int .i64 (decN (ps.map InstQ.e))) ∧ Below w.heap.size w w' := by
  obtain ⟨a, cap, rfl⟩ := h.shape
  have hlt : ps.length - 1 < ps.length := by omega
  obtain ⟨V, hv⟩ : ∃ V : Int, (decN (ps.map InstQ.e) : Int) = V := ⟨_, rfl⟩
  have HV3 : Hid (outV ps[ps.length - 1].dec = 3 → V = (ps.length : Int) - 1) := fun h3 => by
    rw [← hv]
    unfold decN
    rw [last_at ps hlt, if_pos (show outV (InstQ.e ps[ps.length - 1]).dec = 3 from h3), List.length_map]
    omega
  have HVn : Hid (outV ps[ps.length - 1].dec ≠ 3 → V = (ps.length : Int)) := fun h3 => by
    rw [← hv]
    unfold decN
    rw [last_at ps hlt, if_neg (show ¬ outV (InstQ.e ps[ps.length - 1]).dec = 3 from h3), List.length_map]
  rw [hv]
  have hn : InstQ.n ps[ps.length - 1] ≤ 1048576 := by have := nmI_le ps _ hlt; omega
  obtain ⟨b, off, rfl, hbs, hP⟩ := instP_at h (ps.length - 1) hlt
  have hho0 := l6Outcome_any b (off + (ps.length - 1) * 4) ps[ps.length - 1]
  have hho := hho0 w hP hn
  clear hho0 hn hv h
  generalize outV ps[ps.length - 1].dec = OV at *
  generalize ps[ps.length - 1] = p at *
  generalize hm : ps.length - 1 = m at *
  have hpl : (ps.length : Int) - 1 = (m : Int) := by omega
  have hpl2 : ps.length = m + 1 := by omega
  rw [hpl] at HV3
  rw [hpl2] at h4 HVn ⊢
  clear hm hpl hpl2 hl h1 hlt
  go_enter Tryz.func145, Tryz.ntmps145
  go_wp2_with fail
  refine hho.mono ?_
  rintro e w3 ⟨rfl, hw⟩
  replace hw := hw.symm
  subst hw
  clear hho hP
  by_cases hO : OV = 3
  · have e1 : (OV == 3) = true := by simpa using hO
    have E1 : Hid (V = (m : Int)) := HV3.out hO
    clear HV3 HVn hO
    go_wp2
    go_ret
    exact ⟨by rw [E1.out]; rfl, Below.refl _ _⟩
  · have e1 : (OV == 3) = false := by simpa using hO
    have E1 : Hid (V = (m : Int) + 1) := by have := HVn.out hO; exact this.trans (by omega)
    clear HV3 HVn hO
    go_wp2
    go_ret
    exact ⟨by rw [E1.out]; rfl, Below.refl _ _⟩

set_option maxHeartbeats 4000000 in
theorem specDecidedIn_any (v : Value) (ps : List InstQ) (w : World) (h : instK.At w v ps) (hl : (ps.length + nmL InstQ.n ps) ≤ 1048576) :
    Calls Tryz.prog 67 #[v] w fun e w' => e = .returned (.agg #[.int .i64 (ordF (ps.map InstQ.e)), .int .i64 (diV (ps.map InstQ.e))]) ∧ Below w.heap.size w w' := by
  have hof := fun w h => l7Fault_any v ps w h hl
  have hld := fun w h h1 h4 => l7Decided_any v ps w h hl h1 h4
  have HO : Hid (ordF (ps.map InstQ.e) = 0 → 1 ≤ ps.length ∧ ps.length ≤ 4) := fun h0 => by
    have := ((ord_iff _).1 h0).1
    rw [List.length_map] at this
    exact this
  have HV : Hid ((ordF (ps.map InstQ.e) = 0 → diV (ps.map InstQ.e) = (decN (ps.map InstQ.e) : Int)) ∧ (ordF (ps.map InstQ.e) ≠ 0 → diV (ps.map InstQ.e) = 0)) := ⟨fun h0 => if_pos h0, fun h0 => if_neg h0⟩
  obtain ⟨a, cap, rfl⟩ := h.shape
  generalize ordF (ps.map InstQ.e) = C at *
  generalize diV (ps.map InstQ.e) = V at *
  generalize (decN (ps.map InstQ.e) : Int) = M at *
  have hB : Below w.heap.size w (w.alloc (.cells #[.int .i64 0, .int .i64 0] 71)) := by go_grown
  have Rb := Blk.new w 71 #[.int .i64 0, .int .i64 0]
  go_enter Tryz.func67, Tryz.ntmps67
  go_wp2_with fail
  generalize w.alloc (.cells #[.int .i64 0, .int .i64 0] 71) = W at *
  refine (hof W (h.below hB)).mono ?_
  rintro e w1 ⟨rfl, hb⟩
  replace hB := hB.trans (hb.mono hB.size)
  replace Rb := Rb.below hb
  clear hb hof
  by_cases hC : C = 0
  · obtain ⟨h1, h4⟩ := HO.out hC
    have E1 : Hid (V = M) := HV.out.1 hC
    subst hC
    clear HV HO
    go_wp2_with fail
    refine (hld w1 (h.below hB) h1 h4).mono ?_
    rintro e w3 ⟨rfl, hb3⟩
    replace hB := hB.trans (hb3.mono hB.size)
    replace Rb := Rb.below hb3
    have q0 := Rb.cell 0 _ rfl
    have q1 := Rb.cell 1 _ rfl
    have f0 := Rb.frozen 0
    have f1 := Rb.frozen 1
    clear hb3 hld
    go_wp2
    exact bodyPost_ret (v := .agg #[.int .i64 0, .int .i64 M]) (by simp [results, Tryz.results67, go_sem, q0, q1]) rfl ⟨by rw [E1.out], (hB.setCell (p := ⟨w.heap.size, 0, none⟩) (Nat.le_refl _) _).setCell (p := ⟨w.heap.size, 1, none⟩) (Nat.le_refl _) _⟩
  · have E1 : Hid (V = 0) := HV.out.2 hC
    have hC' : (C != 0) = true := by simpa using hC
    have q0 := Rb.cell 0 _ rfl
    have q1 := Rb.cell 1 _ rfl
    have f0 := Rb.frozen 0
    have f1 := Rb.frozen 1
    clear HV HO hld
    go_wp2
    exact bodyPost_ret (v := .agg #[.int .i64 C, .int .i64 0]) (by simp [results, Tryz.results67, go_sem, q0, q1]) rfl ⟨by rw [E1.out], (hB.setCell (p := ⟨w.heap.size, 0, none⟩) (Nat.le_refl _) _).setCell (p := ⟨w.heap.size, 1, none⟩) (Nat.le_refl _) _⟩

end Go.Proofs.YtjnkldlkbjldcaaGreatDoor

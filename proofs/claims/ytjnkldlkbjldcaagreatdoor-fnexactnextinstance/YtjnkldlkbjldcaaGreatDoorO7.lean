/- OrderFault and DecidedIn, of the program and of its model. -/
import Derived.Test.YtjnkldlkbjldcaaGreatDoorS7
import Derived.Test.YtjnkldlkbjldcaaGreatDoorKIs
namespace Go.Proofs.YtjnkldlkbjldcaaGreatDoor
open Go.RowKit
open Go.BigFrame
set_option linter.unusedVariables false
set_option maxRecDepth 100000
set_option linter.unusedSimpArgs false

theorem fieldI0 (c v : Int) (w : World) : (Instr.field 71 (.agg #[.int .i64 c, .int .i64 v]) 0).run Tryz.prog w = .ok (.int .i64 c) w := by kernel_rfl
theorem fieldI1 (c v : Int) (w : World) : (Instr.field 71 (.agg #[.int .i64 c, .int .i64 v]) 1).run Tryz.prog w = .ok (.int .i64 v) w := by kernel_rfl
theorem oc_eq (x : InstE) : (ocC x == 0) = ((insF x == 0) && (outV x.dec != 3)) := by
  unfold ocC
  by_cases h0 : insF x = 0
  · rw [if_pos h0, h0]
    by_cases h3 : outV x.dec = 3
    · rw [if_pos h3, h3]; rfl
    · rw [if_neg h3]
      have : (outV x.dec != 3) = true := by simpa using h3
      rw [this]; rfl
  · rw [if_neg h0]
    have : (insF x == 0) = false := by simpa using h0
    rw [this]; rfl
theorem inst_at (ps : List InstQ) (k : Nat) (hk : k < ps.length) : (ps.map InstQ.e).getD k instNo = InstQ.e ps[k] := by simp [List.getD, hk]
theorem nmI_le (ps : List InstQ) (k : Nat) (hk : k < ps.length) : InstQ.n ps[k] ≤ nmL InstQ.n ps := nm_le InstQ.n ps k hk
theorem instP_at {w : World} {a : Option Addr} {n cap : Nat} {ps : List InstQ} (h : instK.At w (.slice a n cap) ps) (k : Nat) (hk : k < ps.length) : ∃ b off, a = some ⟨b, off, none⟩ ∧ b < w.heap.size ∧ InstP w b (off + k * 4) ps[k] := by
  obtain ⟨b, off, e, hb, hc, hrd⟩ := h.cell (by decide) k hk
  have hc' : ∀ j x, (instK.cells ps[k])[j]? = some x → w.cell? ⟨b, off + k * 4 + j, none⟩ = some x := hc
  exact ⟨b, off, e, hb, ⟨hc' 0 (.bool ps[k].has) rfl, hc' 1 ps[k].vb rfl, hc' 2 ps[k].vr rfl, hc' 3 ps[k].vd rfl⟩, hrd⟩

set_option maxHeartbeats 2000000 in
theorem hasOutcome_any (p : InstQ) (w : World) (hG : Rul w) (h : instK.rd w p) (hl : p.n ≤ 1048576) :
    Calls Tryz.prog 144 #[.agg #[.bool p.has, p.vb, p.vr, p.vd]] w fun e w' => e = .returned (.bool (ocC p.e == 0)) ∧ Below w.heap.size w w' := by
  have hbo := fun w hG h => implOutcome_any p w hG h hl
  have hrb := fun (w' : World) hb => instK.rd_below (w' := w') h hb
  generalize ocC p.e = D at *
  generalize ocV p.e = E at *
  obtain ⟨has, vb, batch, vr, rounds, vd, dec⟩ := p
  obtain ⟨ba, bk, rfl⟩ : ∃ a c, vb = .slice a batch.length c := h.1.shape
  obtain ⟨va, vk, rfl⟩ : ∃ a c, vr = .slice a rounds.length c := h.2.1.shape
  obtain ⟨da, dk, rfl⟩ : ∃ a c, vd = .slice a dec.length c := h.2.2.shape
  dsimp only at hbo hrb
  have hf0 := fieldI0 D E
  have hB : Below w.heap.size w (w.alloc (.cells #[.bool has, .slice ba batch.length bk, .slice va rounds.length vk, .slice da dec.length dk] 28)) := by go_grown
  go_enter Tryz.func144, Tryz.ntmps144
  go_wp2_with fail
  generalize w.alloc (.cells #[.bool has, .slice ba batch.length bk, .slice va rounds.length vk, .slice da dec.length dk] 28) = W at *
  refine (hbo W (hG.below hB) (hrb W hB)).mono ?_
  rintro e w1 ⟨rfl, hb1⟩
  replace hB := hB.trans (hb1.mono hB.size)
  go_wp2
  go_ret
  exact ⟨rfl, hB⟩

set_option maxHeartbeats 4000000 in
theorem implOrderFault_any (v : Value) (ps : List InstQ) (w : World) (hG : Rul w) (h : instK.At w v ps) (hl : (ps.length + nmL InstQ.n ps) ≤ 1048576) :
    Calls Tryz.prog 68 #[v] w fun e w' => e = .returned (.int .i64 (ordF (ps.map InstQ.e))) ∧ Below w.heap.size w w' := by
  obtain ⟨a, cap, rfl⟩ := h.shape
  generalize hE : ordF (ps.map InstQ.e) = E
  have HE : Hid (ordF (ps.map InstQ.e) = E) := hE
  clear hE
  by_cases hlen : ps.length < 1 ∨ 4 < ps.length
  · have E1 : Hid (E = 2) := by
      have := HE.out
      unfold ordF at this
      rw [if_pos (by simpa using hlen)] at this
      exact this.symm
    clear HE
    rcases hlen with hlen | hlen
    · go_enter Tryz.func68, Tryz.ntmps68
      go_wp2
      go_ret
      exact ⟨by rw [E1.out]; rfl, Below.refl _ _⟩
    · have h1 : ¬ ps.length < 1 := by omega
      go_enter Tryz.func68, Tryz.ntmps68
      go_wp2
      go_ret
      exact ⟨by rw [E1.out]; rfl, Below.refl _ _⟩
  · have HG : Hid (E = ordGo (ps.map InstQ.e)) := by
      have := HE.out
      unfold ordF at this
      rw [if_neg (by simpa using hlen)] at this
      exact this.symm
    have h1 : ¬ ps.length < 1 := by omega
    have h4 : ps.length ≤ 4 := by omega
    clear HE hlen
    go_enter Tryz.func68, Tryz.ntmps68
    go_wp2
    go_loopw [16] (fun i wr => ∃ k : Nat, k ≤ ps.length ∧ i = .int .i64 k ∧ Hid (E = ordGo ((ps.map InstQ.e).drop k)) ∧ Below w.heap.size w wr) (fun i _ => ps.length - (intOf i).toNat)
    case atStart => exact ⟨0, Nat.zero_le _, rfl, HG, Below.refl _ _⟩
    case round =>
      clear HG
      obtain ⟨k, hk, rfl, HG, hb⟩ := hrel
      by_cases hlt : k < ps.length
      · have hat := inst_at ps k hlt
        have HBAD : Hid (insF (InstQ.e ps[k]) ≠ 0 → E = insF (InstQ.e ps[k])) := fun hx => by
          rw [HG.out, ordGo_bad _ k (by simpa using hlt) (by rw [hat]; exact hx), hat]
        have HOPN : Hid (k + 1 < ps.length → insF (InstQ.e ps[k]) = 0 → outV (InstQ.e ps[k]).dec = 3 → E = 8) := fun h1 h2 h3 => by
          rw [HG.out, ordGo_open _ k (by simpa using h1) (by rw [hat]; exact h2) (by rw [hat]; exact h3)]
        have HNXT : Hid (insF (InstQ.e ps[k]) = 0 → ¬ (k + 1 < ps.length ∧ outV (InstQ.e ps[k]).dec = 3) → E = ordGo ((ps.map InstQ.e).drop (k + 1))) := fun h2 h3 => by
          rw [HG.out, ordGo_next _ k (by simpa using hlt) (by rw [hat]; exact h2) (by rw [hat]; simpa using h3)]
        have hn : InstQ.n ps[k] ≤ 1048576 := by have := nmI_le ps k hlt; omega
        have hif0 := implInstanceFault_any ps[k]
        have hho0 := hasOutcome_any ps[k]
        have hif := fun w hG h => hif0 w hG h hn
        have hho := fun w hG h => hho0 w hG h hn
        clear hif0 hho0
        have hoc := oc_eq (InstQ.e ps[k])
        clear hat HG
        obtain ⟨b, off, rfl, hbs, hc, hrd⟩ := (h.below hb).cell (by decide) k hlt
        have hc' : ∀ j x, (instK.cells ps[k])[j]? = some x → wr.cell? ⟨b, off + k * 4 + j, none⟩ = some x := hc
        have c0 := hc' 0 (.bool ps[k].has) rfl
        have c1 := hc' 1 ps[k].vb rfl
        have c2 := hc' 2 ps[k].vr rfl
        have c3 := hc' 3 ps[k].vd rfl
        rw [Nat.add_zero] at c0
        clear hc hc'
        have hrb := fun (w' : World) hb => instK.rd_below (w' := w') hrd hb
        generalize ocC (InstQ.e ps[k]) = OC at *
        generalize outV (InstQ.e ps[k]).dec = OV at *
        generalize insF (InstQ.e ps[k]) = C at *
        generalize ps[k] = p at *
        obtain ⟨has, vb, batch, vr, rounds, vd, dec⟩ := p
        obtain ⟨ba, bk, rfl⟩ : ∃ a c, vb = .slice a batch.length c := hrd.1.shape
        obtain ⟨va, vk, rfl⟩ : ∃ a c, vr = .slice a rounds.length c := hrd.2.1.shape
        obtain ⟨da, dk, rfl⟩ : ∃ a c, vd = .slice a dec.length c := hrd.2.2.shape
        dsimp only at c0 c1 c2 c3 hif hho hrb
        have hB1 : Below wr.heap.size wr (wr.alloc (.cells #[.bool has, .slice ba batch.length bk, .slice va rounds.length vk, .slice da dec.length dk] 28)) := by go_grown
        have Bk := Blk.new wr 28 #[.bool has, .slice ba batch.length bk, .slice va rounds.length vk, .slice da dec.length dk]
        have rd1 := hrb _ hB1
        go_wp2_with fail
        generalize wr.alloc (.cells #[.bool has, .slice ba batch.length bk, .slice va rounds.length vk, .slice da dec.length dk] 28) = W1 at *
        refine (hif W1 (hG.below (hb.trans (hB1.mono hb.size))) rd1).mono ?_
        rintro e w2 ⟨rfl, hb2⟩
        have rd2 := instK.rd_below rd1 hb2
        replace Bk := Bk.below hb2
        replace hb := (hb.trans (hB1.mono hb.size)).trans (hb2.mono (hb.trans (hB1.mono hb.size)).size)
        clear hB1 hb2 rd1 hif c0 c1 c2 c3 hrb
        by_cases hC : C = 0
        · subst hC
          by_cases hk1 : k + 1 < ps.length
          · have hk2 : (k : Int) < (ps.length : Int) - 1 := by omega
            have p0 := Bk.cell 0 _ rfl
            have p1 := Bk.cell 1 _ rfl
            have p2 := Bk.cell 2 _ rfl
            have p3 := Bk.cell 3 _ rfl
            go_wp2_with fail
            refine (hho w2 (hG.below hb) rd2).mono ?_
            rintro e w3 ⟨rfl, hb3⟩
            replace hb := hb.trans (hb3.mono hb.size)
            clear hb3 hho p0 p1 p2 p3 Bk rd2
            by_cases hO : OV = 3
            · have e1 : (OC == 0) = false := by rw [hoc, hO]; rfl
              have E1 : Hid (E = 8) := HOPN.out hk1 (by simp) hO
              clear hoc HOPN HNXT HBAD
              go_wp2
              go_ret
              exact ⟨by rw [E1.out]; rfl, hb⟩
            · have e1 : (OC == 0) = true := by
                rw [hoc]
                have : (OV != 3) = true := by simpa using hO
                rw [this]; rfl
              have E1 : Hid (E = ordGo ((ps.map InstQ.e).drop (k + 1))) := HNXT.out (by simp) (fun h => hO h.2)
              clear hoc HOPN HNXT HBAD
              go_wp2
              go_roundw
              case rel => exact ⟨k + 1, by omega, by go_num, E1.out, hb⟩
              case measure => simp [intOf]; omega
          · have hk2 : ¬ (k : Int) < (ps.length : Int) - 1 := by omega
            have E1 : Hid (E = ordGo ((ps.map InstQ.e).drop (k + 1))) := HNXT.out (by simp) (fun h => hk1 h.1)
            clear hoc HOPN HNXT HBAD hho
            go_wp2
            go_roundw
            case rel => exact ⟨k + 1, by omega, by go_num, E1.out, hb⟩
            case measure => simp [intOf]; omega
        · have hC' : (C != 0) = true := by simpa using hC
          have E1 : Hid (E = C) := HBAD.out hC
          clear hoc HOPN HNXT HBAD hho
          go_wp2
          go_ret
          exact ⟨by rw [E1.out]; rfl, hb⟩
      · have E1 : Hid (E = 0) := by rw [HG.out]; exact ordGo_end _ k (by simp; omega)
        clear HG
        go_wp2
        go_ret
        exact ⟨by rw [E1.out]; rfl, hb⟩

set_option maxHeartbeats 4000000 in
theorem l7Fault_any (v : Value) (ps : List InstQ) (w : World) (h : instK.At w v ps) (hl : (ps.length + nmL InstQ.n ps) ≤ 1048576) :
    Calls Tryz.prog 134 #[v] w fun e w' => e = .returned (.int .i64 (ordF (ps.map InstQ.e))) ∧ Below w.heap.size w w' := by
  obtain ⟨a, cap, rfl⟩ := h.shape
  generalize hE : ordF (ps.map InstQ.e) = E
  have HE : Hid (ordF (ps.map InstQ.e) = E) := hE
  clear hE
  by_cases hlen : ps.length < 1 ∨ 4 < ps.length
  · have E1 : Hid (E = 2) := by
      have := HE.out
      unfold ordF at this
      rw [if_pos (by simpa using hlen)] at this
      exact this.symm
    clear HE
    rcases hlen with hlen | hlen
    · go_enter Tryz.func134, Tryz.ntmps134
      go_wp2
      go_ret
      exact ⟨by rw [E1.out]; rfl, Below.refl _ _⟩
    · have h1 : ¬ ps.length < 1 := by omega
      go_enter Tryz.func134, Tryz.ntmps134
      go_wp2
      go_ret
      exact ⟨by rw [E1.out]; rfl, Below.refl _ _⟩
  · have HG : Hid (E = ordGo (ps.map InstQ.e)) := by
      have := HE.out
      unfold ordF at this
      rw [if_neg (by simpa using hlen)] at this
      exact this.symm
    have h1 : ¬ ps.length < 1 := by omega
    have h4 : ps.length ≤ 4 := by omega
    clear HE hlen
    go_enter Tryz.func134, Tryz.ntmps134
    go_wp2
    go_loopw [3] (fun i wr => ∃ k : Nat, k ≤ ps.length ∧ i = .int .i64 k ∧ Hid (E = ordGo ((ps.map InstQ.e).drop k)) ∧ Below w.heap.size w wr) (fun i _ => ps.length - (intOf i).toNat)
    case atStart => exact ⟨0, Nat.zero_le _, rfl, HG, Below.refl _ _⟩
    case round =>
      clear HG
      obtain ⟨k, hk, rfl, HG, hb⟩ := hrel
      by_cases hlt : k < ps.length
      · have hat := inst_at ps k hlt
        have HBAD : Hid (insF (InstQ.e ps[k]) ≠ 0 → E = insF (InstQ.e ps[k])) := fun hx => by
          rw [HG.out, ordGo_bad _ k (by simpa using hlt) (by rw [hat]; exact hx), hat]
        have HOPN : Hid (k + 1 < ps.length → insF (InstQ.e ps[k]) = 0 → outV (InstQ.e ps[k]).dec = 3 → E = 8) := fun h1 h2 h3 => by
          rw [HG.out, ordGo_open _ k (by simpa using h1) (by rw [hat]; exact h2) (by rw [hat]; exact h3)]
        have HNXT : Hid (insF (InstQ.e ps[k]) = 0 → ¬ (k + 1 < ps.length ∧ outV (InstQ.e ps[k]).dec = 3) → E = ordGo ((ps.map InstQ.e).drop (k + 1))) := fun h2 h3 => by
          rw [HG.out, ordGo_next _ k (by simpa using hlt) (by rw [hat]; exact h2) (by rw [hat]; simpa using h3)]
        obtain ⟨b, off, rfl, hbs, hP⟩ := instP_at (h.below hb) k hlt
        have hn : InstQ.n ps[k] ≤ 1048576 := by have := nmI_le ps k hlt; omega
        have hif0 := l6Fault_any b (off + k * 4) ps[k]
        have hho0 := l6Outcome_any b (off + k * 4) ps[k]
        have hif := fun w hP => hif0 w hP hn
        have hho := fun w hP => hho0 w hP hn
        clear hif0 hho0
        have ho2 : outV (InstQ.e ps[k]).dec = outV ps[k].dec := rfl
        rw [ho2] at HOPN HNXT
        clear hat HG ho2
        generalize outV ps[k].dec = OV at *
        generalize insF (InstQ.e ps[k]) = C at *
        generalize ps[k] = p at *
        go_wp2_with fail
        refine (hif wr hP).mono ?_
        rintro e w2 ⟨rfl, hb2⟩
        replace hP := hP.below hb2
        replace hb := hb.trans (hb2.mono hb.size)
        clear hb2 hif
        by_cases hC : C = 0
        · subst hC
          by_cases hk1 : k + 1 < ps.length
          · have hk2 : (k : Int) < (ps.length : Int) - 1 := by omega
            go_wp2_with fail
            refine (hho w2 hP).mono ?_
            rintro e w3 ⟨rfl, hw⟩
            replace hw := hw.symm
            subst hw
            clear hho hP
            by_cases hO : OV = 3
            · have E1 : Hid (E = 8) := HOPN.out hk1 (by simp) hO
              have hO' : (OV == 3) = true := by simpa using hO
              clear HOPN HNXT HBAD hO
              go_wp2
              go_ret
              exact ⟨by rw [E1.out]; rfl, hb⟩
            · have hO' : (OV == 3) = false := by simpa using hO
              have E1 : Hid (E = ordGo ((ps.map InstQ.e).drop (k + 1))) := HNXT.out (by simp) (fun h => hO h.2)
              clear HOPN HNXT HBAD hO
              go_wp2
              go_roundw
              case rel => exact ⟨k + 1, by omega, by go_num, E1.out, hb⟩
              case measure => simp [intOf]; omega
          · have hk2 : ¬ (k : Int) < (ps.length : Int) - 1 := by omega
            have E1 : Hid (E = ordGo ((ps.map InstQ.e).drop (k + 1))) := HNXT.out (by simp) (fun h => hk1 h.1)
            clear HOPN HNXT HBAD hho
            go_wp2
            go_roundw
            case rel => exact ⟨k + 1, by omega, by go_num, E1.out, hb⟩
            case measure => simp [intOf]; omega
        · have hC' : (C != 0) = true := by simpa using hC
          have E1 : Hid (E = C) := HBAD.out hC
          clear HOPN HNXT HBAD hho
          go_wp2
          go_ret
          exact ⟨by rw [E1.out]; rfl, hb⟩
      · have E1 : Hid (E = 0) := by rw [HG.out]; exact ordGo_end _ k (by simp; omega)
        clear HG
        go_wp2
        go_ret
        exact ⟨by rw [E1.out]; rfl, hb⟩

theorem specOrderFault_any (v : Value) (ps : List InstQ) (w : World) (h : instK.At w v ps) (hl : (ps.length + nmL InstQ.n ps) ≤ 1048576) :
    Calls Tryz.prog 72 #[v] w fun e w' => e = .returned (.int .i64 (ordF (ps.map InstQ.e))) ∧ Below w.heap.size w w' := by
  have hf := l7Fault_any v ps w h hl
  obtain ⟨a, cap, rfl⟩ := h.shape
  generalize ordF (ps.map InstQ.e) = E at *
  go_enter Tryz.func72, Tryz.ntmps72
  go_wp2_with fail
  refine hf.mono ?_
  rintro e w2 ⟨rfl, hb2⟩
  go_wp2
  go_ret
  exact ⟨rfl, hb2⟩

end Go.Proofs.YtjnkldlkbjldcaaGreatDoor

/- The open row; a report that is laid on a board. -/
import Derived.Test.YtpjmlidbligcbaaGreatDoorN6
namespace Go.Proofs.YtpjmlidbligcbaaGreatDoor
open Go.RowKit
open Go.BigFrame
set_option linter.unusedVariables false
set_option maxRecDepth 100000
set_option linter.unusedSimpArgs false

/-- The variable openRow is as the program's text lays it. -/
def Opn (w : World) : Prop := ∀ j, j < 3 → w.cell? ⟨0, j, none⟩ = some (.int .i64 3)
theorem Opn.below {w w' : World} (h : Opn w) (hb : Below w.heap.size w w') : Opn w' := fun j hj => cellB (h j hj) hb
structure RulO (w : World) : Prop where
  r : Rul w
  o : Opn w
theorem RulO.below {w w' : World} (h : RulO w) (hb : Below w.heap.size w w') : RulO w' := ⟨h.r.below hb, h.o.below hb⟩
theorem Opn.range {w : World} (h : Opn w) : w.rangeAt 0 0 [.int .i64 3, .int .i64 3, .int .i64 3] := fun j v hv => by
  rw [Nat.zero_add]
  match j, hv with
  | 0, hv => simp at hv; subst hv; exact h 0 (by omega)
  | 1, hv => simp at hv; subst hv; exact h 1 (by omega)
  | 2, hv => simp at hv; subst hv; exact h 2 (by omega)
theorem Opn.glob {w : World} (h : Opn w) : 0 < w.heap.size := World.block_lt_of_cell? w ⟨0, 0, none⟩ (h 0 (by omega))

/-- An open round; the round behind the last one comes to be. -/
def opn3 : RoundE := ⟨[3, 3, 3], [3, 3, 3]⟩
def ensR (rs : List RoundE) (r : Nat) : List RoundE := if r = rs.length then rs ++ [opn3] else rs
theorem ensR_lt (rs : List RoundE) (r : Nat) (hr : r ≤ rs.length) : r < (ensR rs r).length := by
  unfold ensR
  split
  · simp; omega
  · omega
theorem ensR_wel {rs : List RoundE} (h : Wel rs) (r : Nat) : Wel (ensR rs r) := by
  unfold ensR
  split
  · intro x hx
    rcases List.mem_append.1 hx with hx | hx
    · exact h x hx
    · simp only [List.mem_singleton] at hx
      subst hx
      exact ⟨rfl, rfl⟩
  · exact h
theorem ensR_le (rs : List RoundE) (r : Nat) (h4 : rs.length ≤ 4) (hr : r < 4) : (ensR rs r).length ≤ 4 := by
  unfold ensR
  split
  · simp; omega
  · exact h4

theorem Opn.outs {w w' : World} {F : List Nat} (h : Opn w) (hU : Out F w w') (hF : 0 ∉ F) : Opn w' := fun j hj => by
  have h0 := hU.block 0 h.glob hF
  have h1 := h j hj
  simp only [World.cell?] at h1 ⊢
  rw [h0]
  exact h1
/-- Rounds in which nobody voted come behind, until round r is there. -/
def reaR (rs : List RoundE) (r : Nat) : List RoundE := rs ++ List.replicate (r + 1 - rs.length) opn3
theorem reaR_ens {rs : List RoundE} {r : Nat} (hr : r ≤ rs.length) : reaR rs r = ensR rs r := by
  unfold reaR ensR
  by_cases h : r = rs.length
  · rw [if_pos h, h, show rs.length + 1 - rs.length = 1 by omega]
    rfl
  · rw [if_neg h, show r + 1 - rs.length = 0 by omega]
    simp
theorem wel_more {rs : List RoundE} (h : Wel rs) (m : Nat) : Wel (rs ++ List.replicate m opn3) := fun x hx => by
  rcases List.mem_append.1 hx with hx | hx
  · exact h x hx
  · rw [(List.mem_replicate.1 hx).2]
    exact ⟨rfl, rfl⟩

set_option maxHeartbeats 4000000 in
theorem reach_any (b : Nat) (t : TypeId) (rs : List RoundE) (tail : List Value) (r : Nat) (w : World) (hO : Opn w) (hbo : b ≠ 0) (hB : Blk w b t (rndC rs ++ tail).toArray) (h : Wel rs) (h4 : rs.length ≤ 4) (hr4 : r < 4) :
    Calls Tryz.prog 88 #[.pointer (some ⟨b, 0, none⟩), .int .i64 (r : Int)] w fun e w' => e = .returned (.tuple #[]) ∧ Blk w' b t (rndC (reaR rs r) ++ tail).toArray ∧ Out [b] w w' := by
  have hri : (r : Int) < 4 := by omega
  go_enter Tryz.func88, Tryz.ntmps88
  go_wp2
  go_loopg [4] (r + 1 - rs.length) (fun n p wr => ∃ m : Nat, n = r + 1 - (rs.length + m) ∧ m ≤ r + 1 - rs.length ∧ Blk wr b t (rndC (rs ++ List.replicate m opn3) ++ tail).toArray ∧ Out [b] w wr)
  case atStart => exact ⟨0, by omega, by omega, by simpa using hB, Out.refl _ _⟩
  case round =>
    obtain ⟨m, rfl, hm, hB, hU⟩ := hrel
    have hlm : (rs ++ List.replicate m opn3).length = rs.length + m := by simp
    have hwm := wel_more h m
    have c0 : wr.cell? ⟨b, 0, none⟩ = some (.int .i64 ((rs ++ List.replicate m opn3).length : Int)) := hB.cell 0 _ rfl
    rw [hlm] at c0
    by_cases hlt : rs.length + m ≤ r
    · have had : Calls Tryz.prog 135 #[.pointer (some ⟨b, 0, none⟩), .agg #[.int .i64 3, .int .i64 3, .int .i64 3, .int .i64 3, .int .i64 3, .int .i64 3]] wr _ := addRound_any b t _ tail opn3 wr hB hwm ⟨rfl, rfl⟩ (by omega)
      have hOr := (hO.outs hU (by simp only [List.mem_singleton]; exact fun e => hbo e.symm)).range
      have es : rs ++ List.replicate m opn3 ++ [opn3] = rs ++ List.replicate (m + 1) opn3 := by
        rw [List.append_assoc, show [opn3] = List.replicate 1 opn3 from rfl, List.replicate_append_replicate]
      rw [es] at had
      clear es hlm hwm hB
      have hle : ((rs.length + m : Nat) : Int) ≤ (r : Int) := by omega
      generalize hk : rs.length + m = km at *
      go_wp2_with (first | (refine ld_g (by kernel_rfl) 97 _ rfl _ _ rfl [.int .i64 3, .int .i64 3, .int .i64 3] _ hOr Tryz.underlying97 rfl sz_row ?_))
      refine had.mono ?_
      rintro e w2 ⟨rfl, hB2, hU2⟩
      replace hU := hU.trans hU2
      clear had hOr c0 hU2
      go_wp2
      go_roundg (r + 1 - (rs.length + (m + 1)))
      case rel => exact ⟨m + 1, rfl, by omega, hB2, hU⟩
      case measure => omega
    · have e : rs ++ List.replicate m opn3 = reaR rs r := by
        unfold reaR
        rw [show m = r + 1 - rs.length by omega]
      have hle : ¬ ((rs.length + m : Nat) : Int) ≤ (r : Int) := by omega
      rw [e] at hB
      clear e hlm hwm
      generalize hk : rs.length + m = km at *
      go_wp2
      go_end0
      exact ⟨rfl, hB, hU⟩

set_option maxHeartbeats 4000000 in
theorem report_any (b : Nat) (t : TypeId) (rs : List RoundE) (tail : List Value) (r n : Nat) (v : Int) (w : World) (hO : Opn w) (hbo : b ≠ 0) (hB : Blk w b t (rndC rs ++ tail).toArray) (h : Wel rs) (h4 : rs.length ≤ 4) (hr : r ≤ rs.length) (hr4 : r < 4) (hn : n < 3) :
    Calls Tryz.prog 70 #[.pointer (some ⟨b, 0, none⟩), .int .i64 (r : Int), .int .i64 (n : Int), .int .i64 v] w fun e w' => e = .returned (.tuple #[]) ∧ Blk w' b t (rndC (rstR (ensR rs r) r n v) ++ tail).toArray ∧ Out [b] w w' := by
  have had := reach_any b t rs tail r w hO hbo hB h h4 hr4
  rw [reaR_ens hr] at had
  have hn3 : (n : Int) < 3 := by omega
  have hri : (r : Int) < 4 := by omega
  have hw5 : Wel (ensR rs r) := ensR_wel h r
  have hlr := rndC_length hw5 (ensR_le rs r h4 hr4)
  have hrr := ensR_lt rs r hr
  have HREP : Hid ((rndC (ensR rs r))[1 + r * 6 + n]? = some (iv (repA (ensR rs r) r n))) := rnd_rep hw5 r hrr n hn
  have HSET : Hid ((rndC (ensR rs r)).set (1 + r * 6 + n) (iv v) = rndC (rstR (ensR rs r) r n v)) := rnd_setR hw5 r hrr n hn v
  have HLR : Hid ((rndC (ensR rs r)).length = 25) := hlr
  clear hlr hrr hw5
  generalize rndC (rstR (ensR rs r) r n v) = ds at *
  generalize rndC (ensR rs r) = es at *
  go_enter Tryz.func70, Tryz.ntmps70
  go_wp2_with fail
  refine had.mono ?_
  rintro e w2 ⟨rfl, hB2, hU⟩
  have hi : 1 + r * 6 + n < (es ++ tail).length := by rw [List.length_append, HLR.out]; omega
  have hcc : w2.cell? ⟨b, 1 + r * 6 + n, none⟩ = some _ := hB2.cell (1 + r * 6 + n) _ (by rw [List.getElem?_toArray, List.getElem?_append_left (by rw [HLR.out]; omega)]; exact HREP.out)
  have hcf := hB2.frozen (1 + r * 6 + n)
  have hB5 := hB2.set (1 + r * 6 + n) (iv v)
  rw [List.setIfInBounds_toArray, List.set_append_left _ _ (by rw [HLR.out]; omega), HSET.out] at hB5
  have hU5 := hU.set (b := b) (j := 1 + r * 6 + n) (u := iv v) (by simp)
  have HF : Hid (Blk _ b t (ds ++ tail).toArray ∧ Out [b] w _) := And.intro hB5 hU5
  clear had hB hB2 hU hU5 hB5 HSET HREP HLR hi
  go_wp2
  go_end0
  exact ⟨rfl, HF.out⟩

end Go.Proofs.YtpjmlidbligcbaaGreatDoor

/- NewInstance, the program's and the model's. -/
import Derived.Test.YtkklhbofeghnbaaDoorI6m
import Derived.Test.YtkklhbofeghnbaaDoorJB
import Derived.Deep.LoopGhost
namespace Go.Proofs.YtkklhbofeghnbaaDoor
open Go.RowKit
open Go.BigFrame
set_option linter.unusedVariables false
set_option linter.unusedSimpArgs false
set_option maxRecDepth 100000

theorem cellB {w w' : World} {b o : Nat} {v : Value} (h : w.cell? ⟨b, o, none⟩ = some v) (hb : Below w.heap.size w w') : w'.cell? ⟨b, o, none⟩ = some v := by
  have hlt : b < w.heap.size := by
    rcases Nat.lt_or_ge b w.heap.size with h1 | h1
    · exact h1
    · exfalso
      have : w.heap[b]? = none := Array.getElem?_eq_none h1
      simp [World.cell?, this] at h
  rw [hb.cell (p := ⟨b, o, none⟩) hlt]
  exact h
/-- The variable openRow is as the program's text lays it. -/
def Opn (w : World) : Prop := ∀ j, j < 3 → w.cell? ⟨0, j, none⟩ = some (.int .i64 3)
theorem Opn.below {w w' : World} (h : Opn w) (hb : Below w.heap.size w w') : Opn w' := fun j hj => cellB (h j hj) hb
theorem Opn.range {w : World} (h : Opn w) : w.rangeAt 0 0 [.int .i64 3, .int .i64 3, .int .i64 3] := fun j v hv => by
  rw [Nat.zero_add]
  match j, hv with
  | 0, hv => simp at hv; subst hv; exact h 0 (by omega)
  | 1, hv => simp at hv; subst hv; exact h 1 (by omega)
  | 2, hv => simp at hv; subst hv; exact h 2 (by omega)
theorem Opn.glob {w : World} (h : Opn w) : 0 < w.heap.size := World.block_lt_of_cell? w ⟨0, 0, none⟩ (h 0 (by omega))
/-- An open round. -/
def opn3 : RoundE := ⟨[3, 3, 3], [3, 3, 3]⟩
theorem Opn.outs {w w' : World} {F : List Nat} (h : Opn w) (hU : Out F w w') (hF : 0 ∉ F) : Opn w' := fun j hj => by
  have h0 := hU.block 0 h.glob hF
  have h1 := h j hj
  simp only [World.cell?] at h1 ⊢
  rw [h0]
  exact h1
/-- Rounds in which nobody voted come behind, until round r is there. -/
def reaR (rs : List RoundE) (r : Nat) : List RoundE := rs ++ List.replicate (r + 1 - rs.length) opn3
theorem wel_more {rs : List RoundE} (h : Wel rs) (m : Nat) : Wel (rs ++ List.replicate m opn3) := fun x hx => by
  rcases List.mem_append.1 hx with hx | hx
  · exact h x hx
  · rw [(List.mem_replicate.1 hx).2]
    exact ⟨rfl, rfl⟩

set_option maxHeartbeats 4000000 in
theorem reach_any (b : Nat) (t : TypeId) (rs : List RoundE) (tail : List Value) (r : Nat) (w : World) (hO : Opn w) (hbo : b ≠ 0) (hB : Blk w b t (rndC rs ++ tail).toArray) (h : Wel rs) (h4 : rs.length ≤ 4) (hr4 : r < 4) :
    Calls Tryd.prog 15 #[.pointer (some ⟨b, 0, none⟩), .int .i64 (r : Int)] w fun e w' => e = .returned (.tuple #[]) ∧ Blk w' b t (rndC (reaR rs r) ++ tail).toArray ∧ Out [b] w w' := by
  have hri : (r : Int) < 4 := by omega
  go_enter Tryd.func15, Tryd.ntmps15
  go_wp2
  go_loopg [4] (r + 1 - rs.length) (fun n p wr => ∃ m : Nat, n = r + 1 - (rs.length + m) ∧ m ≤ r + 1 - rs.length ∧ Blk wr b t (rndC (rs ++ List.replicate m opn3) ++ tail).toArray ∧ Out [b] w wr)
  case atStart => exact ⟨0, by omega, by omega, by simpa using hB, Out.refl _ _⟩
  case round =>
    obtain ⟨m, rfl, hm, hB, hU⟩ := hrel
    have hlm : (rs ++ List.replicate m opn3).length = rs.length + m := by simp
    have hwm := wel_more h m
    have c0 : wr.cell? ⟨b, 0, none⟩ = some (.int .i64 ((rs ++ List.replicate m opn3).length : Int)) := hB.cell 0 _ rfl
    rw [hlm] at c0
    by_cases hlt : rs.length + m ≤ r
    · have had : Calls Tryd.prog 24 #[.pointer (some ⟨b, 0, none⟩), .agg #[.int .i64 3, .int .i64 3, .int .i64 3, .int .i64 3, .int .i64 3, .int .i64 3]] wr _ := addRound_any b t _ tail opn3 wr hB hwm ⟨rfl, rfl⟩ (by omega)
      have hOr := (hO.outs hU (by simp only [List.mem_singleton]; exact fun e => hbo e.symm)).range
      have es : rs ++ List.replicate m opn3 ++ [opn3] = rs ++ List.replicate (m + 1) opn3 := by
        rw [List.append_assoc, show [opn3] = List.replicate 1 opn3 from rfl, List.replicate_append_replicate]
      rw [es] at had
      clear es hlm hwm hB
      have hle : ((rs.length + m : Nat) : Int) ≤ (r : Int) := by omega
      generalize hk : rs.length + m = km at *
      go_wp2_with (first | (refine ld_g (by kernel_rfl) 47 _ rfl _ _ rfl [.int .i64 3, .int .i64 3, .int .i64 3] _ hOr Tryd.underlying47 rfl sz_row ?_))
      refine had.mono ?_
      rintro e w2 ⟨rfl, hB2, hU2⟩
      replace hU := hU.trans hU2
      clear had hOr c0 hU2
      go_wp2
      go_roundg (r + 1 - (rs.length + (m + 1)))
      case rel => exact ⟨m + 1, rfl, by omega, hB2, hU⟩
      case measure => omega
    · have e : rs ++ List.replicate m opn3 = reaR rs r := by
        unfold reaR
        rw [show m = r + 1 - rs.length by omega]
      have hle : ¬ ((rs.length + m : Nat) : Int) ≤ (r : Int) := by omega
      rw [e] at hB
      clear e hlm hwm
      generalize hk : rs.length + m = km at *
      go_wp2
      go_end0
      exact ⟨rfl, hB, hU⟩

theorem sz_res : (Tryd.prog.info? 41).map (·.size) = some 9 := by kernel_rfl

set_option maxHeartbeats 1000000 in
theorem l6Open_any (w : World) :
    Calls Tryd.prog 23 #[] w fun e w' => ∃ a c, e = .returned (.slice a 3 c) ∧ intK.Own w' (.slice a 3 c) [3, 3, 3] ∧ (∀ k ∈ intK.fp (.slice a 3 c) [3, 3, 3], w.heap.size ≤ k) ∧ Below w.heap.size w w' := by
  have hB : Below w.heap.size w (w.alloc (.cells #[.int .i64 3, .int .i64 3, .int .i64 3] 2)) := by go_grown
  have ho := World.ownsRow_lit (e := 2) (size := 1) w #[.int .i64 3, .int .i64 3, .int .i64 3] 3 (Nat.le_refl _) (by decide) rfl
  obtain ⟨O, G⟩ := list_own (zs := [3, 3, 3]) (n := 3) rfl ho
  have HO : Hid (_ ∧ _) := And.intro O G
  clear ho O G
  go_enter Tryd.func23, Tryd.ntmps23
  go_wp2
  go_ret
  exact ⟨_, _, rfl, HO.out.1, HO.out.2, hB⟩

/-- A new instance. -/
def newE : InstE := ⟨false, [], [opn3], [3, 3, 3]⟩

set_option maxHeartbeats 2000000 in
theorem implNewInstance_any (w : World) (hO : Opn w) :
    Calls Tryd.prog 10 #[] w fun e w' => ∃ q : InstQ, e = .returned (.agg (resC 0 0 false false 0 q)) ∧ q.e = newE ∧ instK.own w' q ∧ (instK.foot q).Nodup ∧ (∀ k ∈ instK.foot q, w.heap.size ≤ k) ∧ Below w.heap.size w w' := by
  have hB : Below w.heap.size w (w.alloc (.cells #[.int .i64 0, .int .i64 0, .bool false, .bool false, .int .i64 0, .bool false, .slice none 0 0, .slice none 0 0, .slice none 0 0] 41)) := by go_grown
  have Rb := Blk.new w 41 #[.int .i64 0, .int .i64 0, .bool false, .bool false, .int .i64 0, .bool false, .slice none 0 0, .slice none 0 0, .slice none 0 0]
  have hO1 := (hO.below hB).range
  have Bz := Blk.new (w.alloc (.cells #[.int .i64 0, .int .i64 0, .bool false, .bool false, .int .i64 0, .bool false, .slice none 0 0, .slice none 0 0, .slice none 0 0] 41)) 54 #[.int .i64 0, .int .i64 0, .int .i64 0, .int .i64 0, .int .i64 0, .int .i64 0, .int .i64 0, .int .i64 0, .int .i64 0, .int .i64 0, .int .i64 0, .int .i64 0, .int .i64 0, .int .i64 0, .int .i64 0, .int .i64 0, .int .i64 0, .int .i64 0, .int .i64 0, .int .i64 0, .int .i64 0, .int .i64 0, .int .i64 0, .int .i64 0, .int .i64 0, .bool false, .slice none 0 0, .int .i64 0, .int .i64 0, .int .i64 0]
  have hal : Below (w.alloc (.cells #[.int .i64 0, .int .i64 0, .bool false, .bool false, .int .i64 0, .bool false, .slice none 0 0, .slice none 0 0, .slice none 0 0] 41)).heap.size (w.alloc (.cells #[.int .i64 0, .int .i64 0, .bool false, .bool false, .int .i64 0, .bool false, .slice none 0 0, .slice none 0 0, .slice none 0 0] 41)) ((w.alloc (.cells #[.int .i64 0, .int .i64 0, .bool false, .bool false, .int .i64 0, .bool false, .slice none 0 0, .slice none 0 0, .slice none 0 0] 41)).alloc (.cells #[.int .i64 0, .int .i64 0, .int .i64 0, .int .i64 0, .int .i64 0, .int .i64 0, .int .i64 0, .int .i64 0, .int .i64 0, .int .i64 0, .int .i64 0, .int .i64 0, .int .i64 0, .int .i64 0, .int .i64 0, .int .i64 0, .int .i64 0, .int .i64 0, .int .i64 0, .int .i64 0, .int .i64 0, .int .i64 0, .int .i64 0, .int .i64 0, .int .i64 0, .bool false, .slice none 0 0, .int .i64 0, .int .i64 0, .int .i64 0] 54)) := by go_grown
  have hO2 := ((hO.below hB).below hal).range
  have hws : w.heap.size < (w.alloc (.cells #[.int .i64 0, .int .i64 0, .bool false, .bool false, .int .i64 0, .bool false, .slice none 0 0, .slice none 0 0, .slice none 0 0] 41)).heap.size := by simp
  have hB2 := below_row (hB.trans (hal.mono hB.size)) (g := (w.alloc (.cells #[.int .i64 0, .int .i64 0, .bool false, .bool false, .int .i64 0, .bool false, .slice none 0 0, .slice none 0 0, .slice none 0 0] 41)).heap.size) hB.size #[.int .i64 0, .int .i64 0, .int .i64 0, .int .i64 0, .int .i64 0, .int .i64 0, .int .i64 0, .int .i64 0, .int .i64 0, .int .i64 0, .int .i64 0, .int .i64 0, .int .i64 0, .int .i64 0, .int .i64 0, .int .i64 0, .int .i64 0, .int .i64 0, .int .i64 0, .int .i64 0, .int .i64 0, .int .i64 0, .int .i64 0, .int .i64 0, .int .i64 0, .bool false, .slice none 0 0, .int .i64 3, .int .i64 3, .int .i64 3]
  have Rb2 : Blk (((w.alloc (.cells #[.int .i64 0, .int .i64 0, .bool false, .bool false, .int .i64 0, .bool false, .slice none 0 0, .slice none 0 0, .slice none 0 0] 41)).alloc (.cells #[.int .i64 0, .int .i64 0, .int .i64 0, .int .i64 0, .int .i64 0, .int .i64 0, .int .i64 0, .int .i64 0, .int .i64 0, .int .i64 0, .int .i64 0, .int .i64 0, .int .i64 0, .int .i64 0, .int .i64 0, .int .i64 0, .int .i64 0, .int .i64 0, .int .i64 0, .int .i64 0, .int .i64 0, .int .i64 0, .int .i64 0, .int .i64 0, .int .i64 0, .bool false, .slice none 0 0, .int .i64 0, .int .i64 0, .int .i64 0] 54)).setRow (w.alloc (.cells #[.int .i64 0, .int .i64 0, .bool false, .bool false, .int .i64 0, .bool false, .slice none 0 0, .slice none 0 0, .slice none 0 0] 41)).heap.size #[.int .i64 0, .int .i64 0, .int .i64 0, .int .i64 0, .int .i64 0, .int .i64 0, .int .i64 0, .int .i64 0, .int .i64 0, .int .i64 0, .int .i64 0, .int .i64 0, .int .i64 0, .int .i64 0, .int .i64 0, .int .i64 0, .int .i64 0, .int .i64 0, .int .i64 0, .int .i64 0, .int .i64 0, .int .i64 0, .int .i64 0, .int .i64 0, .int .i64 0, .bool false, .slice none 0 0, .int .i64 3, .int .i64 3, .int .i64 3]) w.heap.size 41 #[.int .i64 0, .int .i64 0, .bool false, .bool false, .int .i64 0, .bool false, .slice none 0 0, .slice none 0 0, .slice none 0 0] := (setRow_other _ _ _ _ (by omega)).trans (Rb.below hal)
  have B2 := Bz.row #[.int .i64 0, .int .i64 0, .int .i64 0, .int .i64 0, .int .i64 0, .int .i64 0, .int .i64 0, .int .i64 0, .int .i64 0, .int .i64 0, .int .i64 0, .int .i64 0, .int .i64 0, .int .i64 0, .int .i64 0, .int .i64 0, .int .i64 0, .int .i64 0, .int .i64 0, .int .i64 0, .int .i64 0, .int .i64 0, .int .i64 0, .int .i64 0, .int .i64 0, .bool false, .slice none 0 0, .int .i64 3, .int .i64 3, .int .i64 3]
  have hO3 := (hO.below hB2)
  have hO3r := hO3.range
  have hszN : (Tryd.prog.info? 54).map (·.size) = some (#[.int .i64 0, .int .i64 0, .int .i64 0, .int .i64 0, .int .i64 0, .int .i64 0, .int .i64 0, .int .i64 0, .int .i64 0, .int .i64 0, .int .i64 0, .int .i64 0, .int .i64 0, .int .i64 0, .int .i64 0, .int .i64 0, .int .i64 0, .int .i64 0, .int .i64 0, .int .i64 0, .int .i64 0, .int .i64 0, .int .i64 0, .int .i64 0, .int .i64 0, .bool false, .slice none 0 0, .int .i64 3, .int .i64 3, .int .i64 3] : Array Value).size := by kernel_rfl
  have honeN : (#[.int .i64 0, .int .i64 0, .int .i64 0, .int .i64 0, .int .i64 0, .int .i64 0, .int .i64 0, .int .i64 0, .int .i64 0, .int .i64 0, .int .i64 0, .int .i64 0, .int .i64 0, .int .i64 0, .int .i64 0, .int .i64 0, .int .i64 0, .int .i64 0, .int .i64 0, .int .i64 0, .int .i64 0, .int .i64 0, .int .i64 0, .int .i64 0, .int .i64 0, .bool false, .slice none 0 0, .int .i64 3, .int .i64 3, .int .i64 3] : Array Value).all (·.oneCell') = true := by kernel_rfl
  have hgo : (w.alloc (.cells #[.int .i64 0, .int .i64 0, .bool false, .bool false, .int .i64 0, .bool false, .slice none 0 0, .slice none 0 0, .slice none 0 0] 41)).heap.size ≠ 0 := by have h1 := hO.glob; have h2 := hws; omega
  have had : Calls Tryd.prog 15 #[.pointer (some ⟨(w.alloc (.cells #[.int .i64 0, .int .i64 0, .bool false, .bool false, .int .i64 0, .bool false, .slice none 0 0, .slice none 0 0, .slice none 0 0] 41)).heap.size, 0, none⟩), .int .i64 0] (((w.alloc (.cells #[.int .i64 0, .int .i64 0, .bool false, .bool false, .int .i64 0, .bool false, .slice none 0 0, .slice none 0 0, .slice none 0 0] 41)).alloc (.cells #[.int .i64 0, .int .i64 0, .int .i64 0, .int .i64 0, .int .i64 0, .int .i64 0, .int .i64 0, .int .i64 0, .int .i64 0, .int .i64 0, .int .i64 0, .int .i64 0, .int .i64 0, .int .i64 0, .int .i64 0, .int .i64 0, .int .i64 0, .int .i64 0, .int .i64 0, .int .i64 0, .int .i64 0, .int .i64 0, .int .i64 0, .int .i64 0, .int .i64 0, .bool false, .slice none 0 0, .int .i64 0, .int .i64 0, .int .i64 0] 54)).setRow (w.alloc (.cells #[.int .i64 0, .int .i64 0, .bool false, .bool false, .int .i64 0, .bool false, .slice none 0 0, .slice none 0 0, .slice none 0 0] 41)).heap.size #[.int .i64 0, .int .i64 0, .int .i64 0, .int .i64 0, .int .i64 0, .int .i64 0, .int .i64 0, .int .i64 0, .int .i64 0, .int .i64 0, .int .i64 0, .int .i64 0, .int .i64 0, .int .i64 0, .int .i64 0, .int .i64 0, .int .i64 0, .int .i64 0, .int .i64 0, .int .i64 0, .int .i64 0, .int .i64 0, .int .i64 0, .int .i64 0, .int .i64 0, .bool false, .slice none 0 0, .int .i64 3, .int .i64 3, .int .i64 3]) _ := reach_any (w.alloc (.cells #[.int .i64 0, .int .i64 0, .bool false, .bool false, .int .i64 0, .bool false, .slice none 0 0, .slice none 0 0, .slice none 0 0] 41)).heap.size 54 [] ([.bool false, .slice none 0 0] ++ ([3, 3, 3] : List Int).map iv) 0 (((w.alloc (.cells #[.int .i64 0, .int .i64 0, .bool false, .bool false, .int .i64 0, .bool false, .slice none 0 0, .slice none 0 0, .slice none 0 0] 41)).alloc (.cells #[.int .i64 0, .int .i64 0, .int .i64 0, .int .i64 0, .int .i64 0, .int .i64 0, .int .i64 0, .int .i64 0, .int .i64 0, .int .i64 0, .int .i64 0, .int .i64 0, .int .i64 0, .int .i64 0, .int .i64 0, .int .i64 0, .int .i64 0, .int .i64 0, .int .i64 0, .int .i64 0, .int .i64 0, .int .i64 0, .int .i64 0, .int .i64 0, .int .i64 0, .bool false, .slice none 0 0, .int .i64 0, .int .i64 0, .int .i64 0] 54)).setRow (w.alloc (.cells #[.int .i64 0, .int .i64 0, .bool false, .bool false, .int .i64 0, .bool false, .slice none 0 0, .slice none 0 0, .slice none 0 0] 41)).heap.size #[.int .i64 0, .int .i64 0, .int .i64 0, .int .i64 0, .int .i64 0, .int .i64 0, .int .i64 0, .int .i64 0, .int .i64 0, .int .i64 0, .int .i64 0, .int .i64 0, .int .i64 0, .int .i64 0, .int .i64 0, .int .i64 0, .int .i64 0, .int .i64 0, .int .i64 0, .int .i64 0, .int .i64 0, .int .i64 0, .int .i64 0, .int .i64 0, .int .i64 0, .bool false, .slice none 0 0, .int .i64 3, .int .i64 3, .int .i64 3]) hO3 hgo B2 (fun r hr => by simp at hr) (by simp) (by omega)
  simp only [World.size_alloc] at Bz B2 had hB2 Rb2 hal hws hO3r
  go_enter Tryd.func10, Tryd.ntmps10
  go_wp2_with (first | (refine ld_g (by kernel_rfl) 47 _ rfl _ _ rfl [.int .i64 3, .int .i64 3, .int .i64 3] _ hO1 Tryd.underlying47 rfl sz_row ?_) | (refine ld_g (by kernel_rfl) 47 _ rfl _ _ rfl [.int .i64 3, .int .i64 3, .int .i64 3] _ hO2 Tryd.underlying47 rfl sz_row ?_) | (refine ld_g (by kernel_rfl) 47 _ rfl _ _ rfl [.int .i64 3, .int .i64 3, .int .i64 3] _ hO3r Tryd.underlying47 rfl sz_row ?_) | (refine st_row (by kernel_rfl) 54 _ _ rfl _ #[.int .i64 0, .int .i64 0, .int .i64 0, .int .i64 0, .int .i64 0, .int .i64 0, .int .i64 0, .int .i64 0, .int .i64 0, .int .i64 0, .int .i64 0, .int .i64 0, .int .i64 0, .int .i64 0, .int .i64 0, .int .i64 0, .int .i64 0, .int .i64 0, .int .i64 0, .int .i64 0, .int .i64 0, .int .i64 0, .int .i64 0, .int .i64 0, .int .i64 0, .bool false, .slice none 0 0, .int .i64 3, .int .i64 3, .int .i64 3] rfl rfl 54 _ Bz hszN rfl honeN ?_))
  refine had.mono ?_
  rintro e X ⟨rfl, B3, hU⟩
  clear had hO1 hO2 hO3r hO3 B2 Bz hal hB hgo
  have R3 : Blk X w.heap.size 41 _ := (hU.block _ Rb2.lt (by simp)).trans Rb2
  have hBg := Out.keep hB2 hU hB2.size (fun k hk => by simp only [List.mem_singleton] at hk; omega)
  have hwel : Wel [opn3] := fun r hr => by simp only [List.mem_singleton] at hr; subst hr; exact ⟨rfl, rfl⟩
  have hin := fun w (hT : txnK.At w (.slice none 0 0) ([] : List TxnQ)) => instance_any false (.slice none 0 0) [] [opn3] [3, 3, 3] w hT (fun p hp => by simp at hp) (by simp [nmL]) hwel (by simp) rfl
  have hTx : ∀ w, txnK.At w (.slice none 0 0) ([] : List TxnQ) := fun w => (Kind.own_nil (K := txnK) w).1.at
  change Blk X _ _ (brdC false (.slice none 0 0) [opn3] [3, 3, 3]).toArray at B3
  have hXg := B3.lt
  have X4 := rng B3 (brdC false (.slice none 0 0) [opn3] [3, 3, 3]) (o := 0) (fun j v hv => by rw [Nat.zero_add, List.getElem?_toArray]; exact hv)
  have hs30 : (Tryd.prog.info? 54).map (·.size) = some (brdC false (.slice none 0 0) [opn3] [3, 3, 3]).length := by kernel_rfl
  clear B3 hU Rb Rb2 hB2
  generalize brdC false (.slice none 0 0) [opn3] [3, 3, 3] = BR at *
  go_wp2_with (first | (refine ld_g (by kernel_rfl) 54 _ rfl _ _ rfl BR _ X4 Tryd.underlying54 rfl hs30 ?_))
  clear X4 hs30
  refine (hin X (hTx X)).mono ?_
  rintro e w7 ⟨q, rfl, eq, oq, nq, gq, hb7⟩
  have R5 := R3.below hb7
  have L5 : ∀ k ∈ instK.foot q, w.heap.size + 2 ≤ k := fun k hk => by have := gq k hk; omega
  replace hBg := hBg.trans (hb7.mono hBg.size)
  have hous : ∀ cs, instK.own (w7.setRow w.heap.size cs) q := fun cs => instK.own_out oq (out_row w7 w.heap.size cs) (fun k hk => by have := L5 k hk; simp only [List.mem_singleton]; omega)
  have HQ : Hid (q.e = newE ∧ (instK.foot q).Nodup ∧ (∀ k ∈ instK.foot q, w.heap.size ≤ k) ∧ ∀ cs, instK.own (w7.setRow w.heap.size cs) q) := ⟨eq, nq, fun k hk => by have := L5 k hk; omega, hous⟩
  clear hin gq hb7 R3 eq nq hous L5
  obtain ⟨qh, qb, qbs, qr, qrs, qd, qds⟩ := q
  obtain ⟨s1, t1, rfl⟩ : ∃ a c, qb = .slice a qbs.length c := oq.1.shape
  obtain ⟨s2, t2, rfl⟩ : ∃ a c, qr = .slice a qrs.length c := oq.2.1.shape
  obtain ⟨s3, t3, rfl⟩ : ∃ a c, qd = .slice a qds.length c := oq.2.2.shape
  have Rr := R5.row #[.int .i64 0, .int .i64 0, .bool false, .bool false, .int .i64 0, .bool qh, .slice s1 qbs.length t1, .slice s2 qrs.length t2, .slice s3 qds.length t3]
  have hBr := below_row hBg (g := w.heap.size) (Nat.le_refl _) #[.int .i64 0, .int .i64 0, .bool false, .bool false, .int .i64 0, .bool qh, .slice s1 qbs.length t1, .slice s2 qrs.length t2, .slice s3 qds.length t3]
  have hsr : (Tryd.prog.info? 41).map (·.size) = some (#[.int .i64 0, .int .i64 0, .bool false, .bool false, .int .i64 0, .bool qh, .slice s1 qbs.length t1, .slice s2 qrs.length t2, .slice s3 qds.length t3] : Array Value).size := sz_res
  clear oq
  go_wp2_with (first | (refine st_row (by kernel_rfl) 41 _ _ rfl _ #[.int .i64 0, .int .i64 0, .bool false, .bool false, .int .i64 0, .bool qh, .slice s1 qbs.length t1, .slice s2 qrs.length t2, .slice s3 qds.length t3] rfl rfl 41 _ R5 hsr rfl (by simp [Value.oneCell']) ?_))
  obtain ⟨q0, q1, q2, q3, q4, q5, q6, q7, q8⟩ := Rr.cel9
  exact bodyPost_ret (v := .agg #[.int .i64 0, .int .i64 0, .bool false, .bool false, .int .i64 0, .bool qh, .slice s1 qbs.length t1, .slice s2 qrs.length t2, .slice s3 qds.length t3]) (by simp [results, Tryd.results10, go_sem, q0, q1, q2, q3, q4, q5, q6, q7, q8]) rfl ⟨⟨qh, .slice s1 qbs.length t1, qbs, .slice s2 qrs.length t2, qrs, .slice s3 qds.length t3, qds⟩, rfl, HQ.out.1, HQ.out.2.2.2 _, HQ.out.2.1, HQ.out.2.2.1, hBr⟩

set_option maxHeartbeats 2000000 in
theorem l6New_any (w : World) :
    Calls Tryd.prog 14 #[] w fun e w' => ∃ q : InstQ, e = .returned (.agg #[.bool q.has, q.vb, q.vr, q.vd]) ∧ q.e = newE ∧ instK.own w' q ∧ (instK.foot q).Nodup ∧ (∀ k ∈ instK.foot q, w.heap.size ≤ k) ∧ Below w.heap.size w w' := by
  have hB : Below w.heap.size w (w.alloc (.cells #[.bool false, .slice none 0 0, .slice none 0 0, .slice none 0 0] 39)) := by go_grown
  have Rb := Blk.new w 39 #[.bool false, .slice none 0 0, .slice none 0 0, .slice none 0 0]
  go_enter Tryd.func14, Tryd.ntmps14
  go_wp2_with fail
  have hW0 : w.heap.size < (w.alloc (.cells #[.bool false, .slice none 0 0, .slice none 0 0, .slice none 0 0] 39)).heap.size := by simp
  generalize w.alloc (.cells #[.bool false, .slice none 0 0, .slice none 0 0, .slice none 0 0] 39) = W at *
  refine (l6Open_any W).mono ?_
  rintro e w1 ⟨x1, y1, rfl, o1, g1, hb1⟩
  have h1 := hb1.size
  replace Rb := Rb.below hb1
  replace hB := hB.trans (hb1.mono hB.size)
  have m1 := o1.lt
  clear hb1
  go_wp2_with fail
  refine (l6Open_any w1).mono ?_
  rintro e w2 ⟨x2, y2, rfl, o2, g2, hb2⟩
  have h2 := hb2.size
  replace Rb := Rb.below hb2
  replace o1 := o1.below hb2
  replace hB := hB.trans (hb2.mono hB.size)
  have m2 := o2.lt
  clear hb2
  have hbA : Below w2.heap.size w2 (w2.alloc (.cells #[.slice x1 3 y1, .slice x2 3 y2] 62)) := by go_grown
  have ho := (own_zero (World.ownsRow_lit (e := 62) (size := 2) w2 #[.slice x1 3 y1, .slice x2 3 y2] 1 (Nat.le_refl _) (by decide) rfl)).1
  replace Rb := Rb.below hbA
  replace o1 := o1.below hbA
  replace o2 := o2.below hbA
  replace hB := hB.trans (hbA.mono hB.size)
  have hA : w2.heap.size < (w2.alloc (.cells #[.slice x1 3 y1, .slice x2 3 y2] 62)).heap.size := by simp
  have oR : roundK.Own (w2.alloc (.cells #[.slice x1 3 y1, .slice x2 3 y2] 62)) (.slice (some ⟨w2.heap.size, 0, none⟩) 1 1) [(⟨.slice x1 3 y1, [3, 3, 3], .slice x2 3 y2, [3, 3, 3]⟩ : RoundQ)] := ⟨ho, fun p hp => by simp only [List.mem_singleton] at hp; subst hp; exact ⟨o1, o2⟩⟩
  have HD : Hid (∀ x ∈ intK.fp (.slice x1 3 y1) [3, 3, 3], ∀ y ∈ intK.fp (.slice x2 3 y2) [3, 3, 3], x ≠ y) := fun x hx y hy e => by have := m1 x hx; have := g2 y hy; omega
  clear hbA ho
  go_wp2_with fail
  generalize w2.alloc (.cells #[.slice x1 3 y1, .slice x2 3 y2] 62) = W2 at *
  generalize hgg : w2.heap.size = g at *
  refine (l6Open_any W2).mono ?_
  rintro e w3 ⟨x3, y3, rfl, o3, g3, hb3⟩
  have h3 := hb3.size
  replace Rb := Rb.below hb3
  replace oR := oR.below hb3
  replace hB := hB.trans (hb3.mono hB.size)
  have fR : ∀ k ∈ roundK.fp (.slice (some ⟨g, 0, none⟩) 1 1) [(⟨.slice x1 3 y1, [3, 3, 3], .slice x2 3 y2, [3, 3, 3]⟩ : RoundQ)], W.heap.size ≤ k ∧ k < W2.heap.size := fun k hk => by
    simp only [Kind.fp, List.mem_append, List.flatMap_cons, List.flatMap_nil, List.append_nil, blk, Value.ownBlock, Option.toList, List.mem_singleton] at hk
    rcases hk with hk | hk
    · omega
    · rcases List.mem_append.1 hk with hk | hk
      · have := g1 k hk; have := m1 k hk; omega
      · have := g2 k hk; have := m2 k hk; omega
  have nR : (roundK.fp (.slice (some ⟨g, 0, none⟩) 1 1) [(⟨.slice x1 3 y1, [3, 3, 3], .slice x2 3 y2, [3, 3, 3]⟩ : RoundQ)]).Nodup := by
    unfold Kind.fp
    refine List.nodup_append.2 ⟨blk_nodup _, ?_, fun a ha b hb e => ?_⟩
    · simp only [List.flatMap_cons, List.flatMap_nil, List.append_nil]
      exact List.nodup_append.2 ⟨intK_nodup _ _, intK_nodup _ _, HD.out⟩
    · simp only [blk, Value.ownBlock, Option.toList, List.mem_singleton] at ha
      subst ha e
      simp only [List.flatMap_cons, List.flatMap_nil, List.append_nil] at hb
      rcases List.mem_append.1 hb with hb | hb
      · have := m1 _ hb; omega
      · have := m2 _ hb; omega
  have U := out_row w3 w.heap.size #[.bool false, .slice none 0 0, .slice (some ⟨g, 0, none⟩) 1 1, .slice x3 3 y3]
  have oR' := oR.out U (fun k hk => by have := fR k hk; simp only [List.mem_singleton]; omega)
  have o3' := o3.out U (fun k hk => by have := g3 k hk; simp only [List.mem_singleton]; omega)
  have oT := (Kind.own_nil (K := txnK) (w3.setRow w.heap.size #[.bool false, .slice none 0 0, .slice (some ⟨g, 0, none⟩) 1 1, .slice x3 3 y3])).1
  have Rr := Rb.row #[.bool false, .slice none 0 0, .slice (some ⟨g, 0, none⟩) 1 1, .slice x3 3 y3]
  have hBr := below_row hB (g := w.heap.size) (Nat.le_refl _) #[.bool false, .slice none 0 0, .slice (some ⟨g, 0, none⟩) 1 1, .slice x3 3 y3]
  have hsr : (Tryd.prog.info? 39).map (·.size) = some (#[.bool false, .slice none 0 0, .slice (some ⟨g, 0, none⟩) 1 1, .slice x3 3 y3] : Array Value).size := sz_inst
  have HQ : Hid (∃ q : InstQ, #[.bool q.has, q.vb, q.vr, q.vd] = (#[.bool false, .slice none 0 0, .slice (some ⟨g, 0, none⟩) 1 1, .slice x3 3 y3] : Array Value) ∧ q.e = newE ∧ instK.own (w3.setRow w.heap.size #[.bool false, .slice none 0 0, .slice (some ⟨g, 0, none⟩) 1 1, .slice x3 3 y3]) q ∧ (instK.foot q).Nodup ∧ (∀ k ∈ instK.foot q, w.heap.size ≤ k)) := by
    refine ⟨⟨false, .slice none 0 0, [], .slice (some ⟨g, 0, none⟩) 1 1, [(⟨.slice x1 3 y1, [3, 3, 3], .slice x2 3 y2, [3, 3, 3]⟩ : RoundQ)], .slice x3 3 y3, [3, 3, 3]⟩, rfl, rfl, ⟨oT, oR', o3'⟩, ?_, ?_⟩
    · show (txnK.fp (.slice none 0 0) ([] : List TxnQ) ++ (roundK.fp (.slice (some ⟨g, 0, none⟩) 1 1) [(⟨.slice x1 3 y1, [3, 3, 3], .slice x2 3 y2, [3, 3, 3]⟩ : RoundQ)] ++ intK.fp (.slice x3 3 y3) [3, 3, 3])).Nodup
      rw [(Kind.own_nil (K := txnK) w3).2, List.nil_append]
      exact List.nodup_append.2 ⟨nR, intK_nodup _ _, fun a ha b hb e => by have := fR a ha; have := g3 b hb; omega⟩
    · intro k hk
      replace hk : k ∈ txnK.fp (.slice none 0 0) ([] : List TxnQ) ++ (roundK.fp (.slice (some ⟨g, 0, none⟩) 1 1) [(⟨.slice x1 3 y1, [3, 3, 3], .slice x2 3 y2, [3, 3, 3]⟩ : RoundQ)] ++ intK.fp (.slice x3 3 y3) [3, 3, 3]) := hk
      rw [(Kind.own_nil (K := txnK) w3).2, List.nil_append] at hk
      rcases List.mem_append.1 hk with hk | hk
      · have := fR k hk; omega
      · have := g3 k hk; omega
  clear oR' o3' oT U fR nR oR o3 o1 o2 g1 g2 g3 m1 m2 HD hB hb3
  go_wp2_with (first | (refine st_row (by kernel_rfl) 39 _ _ rfl _ #[.bool false, .slice none 0 0, .slice (some ⟨g, 0, none⟩) 1 1, .slice x3 3 y3] rfl rfl 39 _ Rb hsr rfl (by simp [Value.oneCell']) ?_))
  obtain ⟨q0, q1, q2, q3⟩ := Rr.cel4
  obtain ⟨q, hq1, hq2, hq3, hq4, hq5⟩ := HQ.out
  exact bodyPost_ret (v := .agg #[.bool false, .slice none 0 0, .slice (some ⟨g, 0, none⟩) 1 1, .slice x3 3 y3]) (by simp [results, Tryd.results14, go_sem, q0, q1, q2, q3]) rfl ⟨q, by rw [hq1], hq2, hq3, hq4, hq5, hBr⟩

end Go.Proofs.YtkklhbofeghnbaaDoor

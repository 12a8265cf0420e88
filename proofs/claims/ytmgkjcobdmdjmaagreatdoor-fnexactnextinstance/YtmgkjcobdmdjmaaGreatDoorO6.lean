/- The open row; a report that is laid on a board. -/
import Derived.Test.YtmgkjcobdmdjmaaGreatDoorN6
namespace Go.Proofs.YtmgkjcobdmdjmaaGreatDoor
open Go.RowKit
open Go.BigFrame
set_option linter.unusedVariables false
set_option maxRecDepth 100000
set_option linter.unusedSimpArgs false

/-- The variable openRow is as the program's text lays it. -/
def Opn (w : World) : Prop := ∀ j, j < 3 → w.cell? ⟨0, j, none⟩ = some (.int .i64 3)
theorem Opn.below {w w' : World} (h : Opn w) (hb : Below w.heap.size w w') : Opn w' := fun j hj => cellB (h j hj) hb
structure RulO (w : World) : Prop where
  r : Rul w
  o : Opn w
theorem RulO.below {w w' : World} (h : RulO w) (hb : Below w.heap.size w w') : RulO w' := ⟨h.r.below hb, h.o.below hb⟩
theorem Opn.range {w : World} (h : Opn w) : w.rangeAt 0 0 [.int .i64 3, .int .i64 3, .int .i64 3] := fun j v hv => by
  rw [Nat.zero_add]
  match j, hv with
  | 0, hv => simp at hv; subst hv; exact h 0 (by omega)
  | 1, hv => simp at hv; subst hv; exact h 1 (by omega)
  | 2, hv => simp at hv; subst hv; exact h 2 (by omega)
theorem Opn.glob {w : World} (h : Opn w) : 0 < w.heap.size := World.block_lt_of_cell? w ⟨0, 0, none⟩ (h 0 (by omega))

/-- An open round; the round behind the last one comes to be. -/
def opn3 : RoundE := ⟨[3, 3, 3], [3, 3, 3]⟩
def ensR (rs : List RoundE) (r : Nat) : List RoundE := if r = rs.length then rs ++ [opn3] else rs
theorem ensR_lt (rs : List RoundE) (r : Nat) (hr : r ≤ rs.length) : r < (ensR rs r).length := by
  unfold ensR
  split
  · simp; omega
  · omega
theorem ensR_wel {rs : List RoundE} (h : Wel rs) (r : Nat) : Wel (ensR rs r) := by
  unfold ensR
  split
  · intro x hx
    rcases List.mem_append.1 hx with hx | hx
    · exact h x hx
    · simp only [List.mem_singleton] at hx
      subst hx
      exact ⟨rfl, rfl⟩
  · exact h
theorem ensR_le (rs : List RoundE) (r : Nat) (h4 : rs.length ≤ 4) (hr : r < 4) : (ensR rs r).length ≤ 4 := by
  unfold ensR
  split
  · simp; omega
  · exact h4

set_option maxHeartbeats 4000000 in
theorem report_any (b : Nat) (t : TypeId) (rs : List RoundE) (tail : List Value) (r n : Nat) (v : Int) (w : World) (hO : Opn w) (hB : Blk w b t (rndC rs ++ tail).toArray) (h : Wel rs) (h4 : rs.length ≤ 4) (hr : r ≤ rs.length) (hr4 : r < 4) (hn : n < 3) :
    Calls Tryz.prog 69 #[.pointer (some ⟨b, 0, none⟩), .int .i64 (r : Int), .int .i64 (n : Int), .int .i64 v] w fun e w' => e = .returned (.tuple #[]) ∧ Blk w' b t (rndC (rstR (ensR rs r) r n v) ++ tail).toArray ∧ Out [b] w w' := by
  have c0 : w.cell? ⟨b, 0, none⟩ = some (.int .i64 (rs.length : Int)) := hB.cell 0 _ rfl
  have hn3 : (n : Int) < 3 := by omega
  have hri : (r : Int) < 4 := by omega
  by_cases he : r = rs.length
  · have ee : ensR rs r = rs ++ [opn3] := if_pos he
    have had : Calls Tryz.prog 87 #[.pointer (some ⟨b, 0, none⟩), .agg #[.int .i64 3, .int .i64 3, .int .i64 3, .int .i64 3, .int .i64 3, .int .i64 3]] w _ := addRound_any b t rs tail opn3 w hB h ⟨rfl, rfl⟩ (by omega)
    have hq : ((r : Int) == (rs.length : Int)) = true := by rw [he]; simp
    have hOr := hO.range
    have hw5 : Wel (rs ++ [opn3]) := by rw [← ee]; exact ensR_wel h r
    have hl5 : (rs ++ [opn3]).length = rs.length + 1 := by simp
    have hlr := rndC_length hw5 (by omega)
    have hrr : r < (rs ++ [opn3]).length := by omega
    have hrep := rnd_rep hw5 r hrr n hn
    have hset := rnd_setR hw5 r hrr n hn v
    rw [ee]
    have HSET : Hid ((rndC (rs ++ [opn3])).set (1 + r * 6 + n) (iv v) = rndC (rstR (rs ++ [opn3]) r n v)) := hset
    have HREP : Hid ((rndC (rs ++ [opn3]))[1 + r * 6 + n]? = some (iv (repA (rs ++ [opn3]) r n))) := hrep
    have HLR : Hid ((rndC (rs ++ [opn3])).length = 25) := hlr
    clear hset hrep hlr hl5 hw5 hrr he ee
    generalize rndC (rstR (rs ++ [opn3]) r n v) = ds at *
    generalize rndC (rs ++ [opn3]) = es at *
    go_enter Tryz.func69, Tryz.ntmps69
    go_wp2_with (first | (refine ld_g (by kernel_rfl) 89 _ rfl _ _ rfl [.int .i64 3, .int .i64 3, .int .i64 3] _ hOr Tryz.underlying89 rfl sz_row ?_))
    refine had.mono ?_
    rintro e w2 ⟨rfl, hB2, hU⟩
    have hi : 1 + r * 6 + n < (es ++ tail).length := by rw [List.length_append, HLR.out]; omega
    have hcc : w2.cell? ⟨b, 1 + r * 6 + n, none⟩ = some _ := hB2.cell (1 + r * 6 + n) _ (by rw [List.getElem?_toArray, List.getElem?_append_left (by rw [HLR.out]; omega)]; exact HREP.out)
    have hcf := hB2.frozen (1 + r * 6 + n)
    have hB5 := hB2.set (1 + r * 6 + n) (iv v)
    rw [List.setIfInBounds_toArray, List.set_append_left _ _ (by rw [HLR.out]; omega), HSET.out] at hB5
    have hU5 := hU.set (b := b) (j := 1 + r * 6 + n) (u := iv v) (by simp)
    have HF : Hid (Blk _ b t (ds ++ tail).toArray ∧ Out [b] w _) := And.intro hB5 hU5
    clear had c0 hq hOr hB hB2 hU hU5 hB5 HSET HREP HLR hi
    go_wp2
    go_end0
    exact ⟨rfl, HF.out⟩
  · have ee : ensR rs r = rs := if_neg he
    have hq : ((r : Int) == (rs.length : Int)) = false := by simp; omega
    have hrr : r < rs.length := by omega
    have hlr := rndC_length h h4
    have hrep := rnd_rep h r hrr n hn
    have hset := rnd_setR h r hrr n hn v
    rw [ee]
    have hcc : w.cell? ⟨b, 1 + r * 6 + n, none⟩ = some _ := hB.cell (1 + r * 6 + n) _ (by rw [List.getElem?_toArray, List.getElem?_append_left (by rw [hlr]; omega)]; exact hrep)
    have hcf := hB.frozen (1 + r * 6 + n)
    have hB5 := hB.set (1 + r * 6 + n) (iv v)
    rw [List.setIfInBounds_toArray, List.set_append_left _ _ (by rw [hlr]; omega), hset] at hB5
    have hU5 := (Out.refl [b] w).set (b := b) (j := 1 + r * 6 + n) (u := iv v) (by simp)
    have HF : Hid (Blk _ b t (rndC (rstR rs r n v) ++ tail).toArray ∧ Out [b] w _) := And.intro hB5 hU5
    clear hset hrep hlr hB hU5 hB5 ee he
    go_enter Tryz.func69, Tryz.ntmps69
    go_wp2
    go_end0
    exact ⟨rfl, HF.out⟩

end Go.Proofs.YtmgkjcobdmdjmaaGreatDoor

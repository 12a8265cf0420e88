/- The queue of numbers that ReadTxn reads from: a number is taken, or there is none and it panics with what the variable holds. -/
import Derived.Test.YtjaoggkpnjkkpaaDoorBlk
import Derived.Lib.SmallJoins
namespace Go.Proofs.YtjaoggkpnjkkpaaDoor
open Go.RowKit
open Go.BigFrame
set_option linter.unusedVariables false
set_option linter.unusedSimpArgs false

/-- The variable errNoTxn holds an error. -/
def ErrVar (w : World) (t : TypeId) (x : Value) : Prop := w.cell? ⟨0, 0, none⟩ = some (.iface t x)
theorem ErrVar.below {w w' : World} {t : TypeId} {x : Value} (h : ErrVar w t x) (hb : Below w.heap.size w w') : ErrVar w' t x := by
  unfold ErrVar at h ⊢
  rw [hb.cell (p := ⟨0, 0, none⟩) (World.block_lt_of_cell? w ⟨0, 0, none⟩ h)]; exact h

set_option maxHeartbeats 1000000 in
theorem take_none (q : Nat) (a : Option Addr) (cap : Nat) (t : TypeId) (x : Value) (w : World) (hG : ErrVar w t x) (hQ : Blk w q 76 #[.slice a 0 cap]) :
    Calls Tryd.prog 44 #[.pointer (some ⟨q, 0, none⟩)] w fun e w' => e = .panicked [{ v := .iface t x, recovered := false }] ∧ w' = w := by
  have q0 := hQ.cell 0 _ rfl
  unfold ErrVar at hG
  clear hQ
  go_enter Tryd.func44, Tryd.ntmps44
  go_wp2
  exact ⟨rfl, rfl, rfl⟩

set_option maxHeartbeats 1000000 in
theorem take_some (q b off n cap : Nat) (z : Int) (w : World) (hQ : Blk w q 76 #[.slice (some ⟨b, off, none⟩) (n + 1) cap]) (hz : w.cell? ⟨b, off, none⟩ = some (.int .i64 z)) (hn : n ≤ 40) (hc : n + 1 ≤ cap) :
    Calls Tryd.prog 44 #[.pointer (some ⟨q, 0, none⟩)] w fun e w' => e = .returned (.int .i64 z) ∧ ∃ o', w' = w.setCell ⟨q, 0, none⟩ (.slice (some ⟨b, o', none⟩) n (cap - 1)) ∧ (o' = off + 1 ∨ n = 0) := by
  have q0 := hQ.cell 0 _ rfl
  have f0 := hQ.frozen 0
  clear hQ
  go_enter Tryd.func44, Tryd.ntmps44
  go_wp2
  all_goals go_ret
  · exact ⟨rfl, _, rfl, Or.inr (by omega)⟩
  · exact ⟨rfl, _, rfl, Or.inl rfl⟩

/-- The queue in block q holds L. -/
def QAt (w : World) (q : Nat) (L : List Int) : Prop := ∃ a cap, Blk w q 76 #[.slice a L.length cap] ∧ L.length ≤ cap ∧ Row .i64 w a L ∧ ∀ b off sp, a = some ⟨b, off, sp⟩ → b < q

theorem QAt.below {w w' : World} {q : Nat} {L : List Int} (h : QAt w q L) (hb : Below w.heap.size w w') : QAt w' q L := by
  obtain ⟨a, cap, hB, hc, hR, hn⟩ := h
  exact ⟨a, cap, hB.below hb, hc, hR.below hb, hn⟩

theorem QAt.keep {w w' : World} {q : Nat} {L : List Int} (h : QAt w q L) (hb : Below (q + 1) w w') : QAt w' q L := by
  obtain ⟨a, cap, hB, hc, hR, hn⟩ := h
  refine ⟨a, cap, (hb.block q (by omega)).trans hB, hc, ?_, hn⟩
  intro i hi
  obtain ⟨b, off, ha, hlt, hcell⟩ := hR i hi
  have := hn b off none ha
  exact ⟨b, off, ha, Nat.lt_of_lt_of_le hlt hb.size, by rw [hb.cell (p := ⟨b, off + i, none⟩) (show b < q + 1 by omega)]; exact hcell⟩
theorem QAt.lt {w : World} {q : Nat} {L : List Int} (h : QAt w q L) : q < w.heap.size := by
  obtain ⟨_, _, hB, _⟩ := h
  exact hB.lt

theorem take_nil (q : Nat) (t : TypeId) (x : Value) (w : World) (hG : ErrVar w t x) (hQ : QAt w q []) :
    Calls Tryd.prog 44 #[.pointer (some ⟨q, 0, none⟩)] w fun e w' => e = .panicked [{ v := .iface t x, recovered := false }] ∧ w' = w := by
  obtain ⟨a, cap, hB, _, _, _⟩ := hQ
  exact take_none q a cap t x w hG hB

theorem blk_set {w : World} {b : Nat} {t : TypeId} {x y : Value} (h : Blk w b t #[x]) : Blk (w.setCell ⟨b, 0, none⟩ y) b t #[y] := by
  have := Go.Joins.block_setCell (i := 0) (v := y) h
  unfold Blk
  simpa using this

theorem take_cons (q : Nat) (z : Int) (L : List Int) (w : World) (hQ : QAt w q (z :: L)) (hl : L.length ≤ 40) :
    Calls Tryd.prog 44 #[.pointer (some ⟨q, 0, none⟩)] w fun e w' => e = .returned (.int .i64 z) ∧ QAt w' q L ∧ ∃ y, w' = w.setCell ⟨q, 0, none⟩ y := by
  obtain ⟨a, cap, hB, hc, hR, hn⟩ := hQ
  obtain ⟨b, off, rfl, hbs, hz⟩ := hR 0 (by simp)
  simp only [List.getD_cons_zero, Nat.add_zero] at hz
  have hbl := hn b off none rfl
  have hbq : b ≠ q := by omega
  refine (take_some q b off L.length cap z w hB hz hl (by simpa using hc)).mono ?_
  rintro e w' ⟨rfl, o', rfl, ho⟩
  refine ⟨rfl, ⟨_, _, blk_set hB, by simp at hc; omega, ?_, ?_⟩, _, rfl⟩
  · intro i hi
    rcases ho with rfl | h0
    · obtain ⟨b2, off2, e2, hlt2, hc2⟩ := hR (i + 1) (by simpa using hi)
      simp only [Option.some.injEq, Addr.mk.injEq, and_true] at e2
      obtain ⟨rfl, rfl⟩ := e2
      refine ⟨b, off + 1, rfl, by simpa [World.setCell] using hlt2, ?_⟩
      rw [World.cell?_of_block (w := w) (Below.heap_setCell w ⟨q, 0, none⟩ _ b hbq), Nat.add_assoc, Nat.add_comm 1 i, hc2]
      simp [List.getD]
    · omega
  · intro b2 off2 sp e2
    simp only [Option.some.injEq, Addr.mk.injEq] at e2
    rw [← e2.1]; exact hbl

end Go.Proofs.YtjaoggkpnjkkpaaDoor

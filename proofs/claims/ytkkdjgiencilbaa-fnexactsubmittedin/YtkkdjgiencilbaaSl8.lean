/- A part of a slice: the first ones, the rest; a row of elements that lie elsewhere. No condition. -/
import Derived.Test.YtkkdjgiencilbaaFoot3
import Derived.Test.YtkkdjgiencilbaaBlk
import Derived.Lib.SmallJoins
namespace Go.Proofs.Ytkkdjgiencilbaa
open Go.RowKit
set_option linter.unusedVariables false
set_option linter.unusedSimpArgs false

section
variable {P : Type} {K : Kind P} {w w' : World} {a : Option Addr} {n cap : Nat} {ps : List P}
theorem Kind.At.takeK (h : K.At w (.slice a n cap) ps) (m : Nat) (hm : m ≤ ps.length) : K.At w (.slice a m cap) (ps.take m) := by
  obtain ⟨a', c, e, hl, hr⟩ := h
  simp only [Value.slice.injEq] at e
  obtain ⟨rfl, _, rfl⟩ := e
  refine ⟨a, cap, by rw [List.length_take, Nat.min_eq_left hm], ?_, fun p hp => hr p (List.mem_of_mem_take hp)⟩
  have er : K.row ps = K.row (ps.take m) ++ K.row (ps.drop m) := by
    unfold Kind.row
    rw [← List.flatMap_append, List.take_append_drop]
  rcases hl with h0 | ⟨b, off, ha, hlt, hc⟩
  · left
    rw [er] at h0
    exact (List.append_eq_nil_iff.1 h0).1
  · right
    refine ⟨b, off, ha, hlt, fun j x hx => hc j x ?_⟩
    rw [er, List.getElem?_append_left (List.getElem?_eq_some_iff.1 hx).1]
    exact hx
theorem Kind.Own.capK (h : K.Own w (.slice a n cap) ps) : n ≤ cap ∧ cap ≤ maxLen := by
  rcases h.1.2 with ⟨e, _⟩ | ⟨g, c, cur, e, _, _, h1, h2, _⟩
  · simp only [Value.slice.injEq] at e
    obtain ⟨_, rfl, rfl⟩ := e
    exact ⟨Nat.le_refl _, by decide⟩
  · simp only [Value.slice.injEq] at e
    obtain ⟨_, rfl, rfl⟩ := e
    exact ⟨h1, h2⟩
/-- The rest, where the list's block is known. -/
theorem Kind.At.dropK {b off : Nat} (h : K.At w (.slice (some ⟨b, off, none⟩) n cap) ps) (m : Nat) (hm : m ≤ ps.length) (c' : Nat) : K.At w (.slice (some ⟨b, off + m * K.size, none⟩) (ps.length - m) c') (ps.drop m) := by
  obtain ⟨a', c, e, hl, hr⟩ := h
  simp only [Value.slice.injEq] at e
  obtain ⟨rfl, _, rfl⟩ := e
  refine ⟨_, c', by rw [List.length_drop], ?_, fun p hp => hr p (List.mem_of_mem_drop hp)⟩
  have er : K.row ps = K.row (ps.take m) ++ K.row (ps.drop m) := by
    unfold Kind.row
    rw [← List.flatMap_append, List.take_append_drop]
  have hlen : (K.row (ps.take m)).length = m * K.size := by rw [Kind.row_length, List.length_take, Nat.min_eq_left hm]
  rcases hl with h0 | ⟨b', off', ha, hlt, hc⟩
  · left
    rw [er] at h0
    exact (List.append_eq_nil_iff.1 h0).2
  · right
    simp only [Option.some.injEq, Addr.mk.injEq, and_true] at ha
    obtain ⟨rfl, rfl⟩ := ha
    refine ⟨b, off + m * K.size, rfl, hlt, fun j x hx => ?_⟩
    have h2 := hc (m * K.size + j) x (by rw [er, List.getElem?_append_right (by omega), hlen, show m * K.size + j - m * K.size = j by omega]; exact hx)
    rw [← Nat.add_assoc] at h2
    exact h2
theorem Kind.At.dropNil (h : K.At w (.slice a n cap) ps) (c' : Nat) : K.At w (.slice a 0 c') (ps.drop ps.length) := by
  rw [List.drop_length]
  exact ⟨a, c', rfl, Or.inl rfl, fun p hp => by simp at hp⟩
theorem Kind.At.nilA (w : World) (a : Option Addr) (c' : Nat) : K.At w (.slice a 0 c') ([] : List P) := ⟨a, c', rfl, Or.inl rfl, fun p hp => by simp at hp⟩
theorem Kind.At.dropS (h : K.At w (.slice a n cap) ps) (m : Nat) (hm : m ≤ ps.length) (hcap : ps.length ≤ cap) (c' : Nat) : K.At w (.slice (if cap = m then a else a.map (·.add (m * K.size))) (ps.drop m).length c') (ps.drop m) := by
  by_cases hc : cap = m
  · have hp : ps.drop m = [] := List.drop_of_length_le (by omega)
    rw [if_pos hc, hp]
    exact Kind.At.nilA w a c'
  · rw [if_neg hc]
    cases a with
    | none =>
      obtain ⟨a', c, e, hl, hr⟩ := h
      simp only [Value.slice.injEq] at e
      obtain ⟨rfl, _, rfl⟩ := e
      rcases hl with h0 | ⟨b', off', ha, _⟩
      · refine ⟨none, c', rfl, Or.inl ?_, fun p hp => hr p (List.mem_of_mem_drop hp)⟩
        have er : K.row ps = K.row (ps.take m) ++ K.row (ps.drop m) := by
          unfold Kind.row
          rw [← List.flatMap_append, List.take_append_drop]
        rw [er] at h0
        exact (List.append_eq_nil_iff.1 h0).2
      · simp at ha
    | some x =>
      obtain ⟨a', c, e, hl, hr⟩ := h
      simp only [Value.slice.injEq] at e
      obtain ⟨rfl, _, rfl⟩ := e
      refine ⟨_, c', rfl, ?_, fun p hp => hr p (List.mem_of_mem_drop hp)⟩
      have er : K.row ps = K.row (ps.take m) ++ K.row (ps.drop m) := by
        unfold Kind.row
        rw [← List.flatMap_append, List.take_append_drop]
      have hlen : (K.row (ps.take m)).length = m * K.size := by rw [Kind.row_length, List.length_take, Nat.min_eq_left hm]
      rcases hl with h0 | ⟨b', off', ha, hlt, hc⟩
      · left
        rw [er] at h0
        exact (List.append_eq_nil_iff.1 h0).2
      · right
        simp only [Option.some.injEq] at ha
        subst ha
        refine ⟨b', off' + m * K.size, by simp [Addr.add], hlt, fun j y hy => ?_⟩
        have h2 := hc (m * K.size + j) y (by rw [er, List.getElem?_append_right (by omega), hlen, show m * K.size + j - m * K.size = j by omega]; exact hy)
        rw [← Nat.add_assoc] at h2
        exact h2
/-- A row of one's own whose elements are read elsewhere. -/
theorem Kind.at_of_row {v : Value} {base e : Nat} (h : w.ownsRow base e K.size v ps.length (K.row ps)) (hr : ∀ p ∈ ps, K.rd w p) : K.At w v ps := by
  obtain ⟨a, c, rfl⟩ := own_shape h
  exact ⟨a, c, rfl, Lies.own h, hr⟩
end

theorem Blk.outs8 {w w' : World} {b : Nat} {t : TypeId} {cs : Array Value} {F : List Nat} (h : Blk w b t cs) (hU : Out F w w') (hF : b ∉ F) : Blk w' b t cs := (hU.block b h.lt hF).trans h
theorem Blk.putA {w : World} {b : Nat} {t : TypeId} {cs : Array Value} (h : Blk w b t cs) (j : Nat) (v : Value) : Blk (w.setCell ⟨b, j, none⟩ v) b t (cs.setIfInBounds j v) := by
  have := Go.Joins.block_setCell (i := j) (v := v) h
  unfold Blk
  simpa using this
theorem Blk.other8 {w : World} {b g j : Nat} {u : Value} {t : TypeId} {cs : Array Value} (h : Blk w b t cs) (hne : b ≠ g) : Blk (w.setCell ⟨g, j, none⟩ u) b t cs := (Below.heap_setCell w _ _ b hne).trans h
/-- What goes with a slice: how long it may be. -/
def CapOk : Value → Prop
  | .slice _ n c => n ≤ c ∧ c ≤ maxLen
  | _ => False
theorem Kind.Own.capOk {P : Type} {K : Kind P} {w : World} {v : Value} {ps : List P} (h : K.Own w v ps) : CapOk v := by
  obtain ⟨a, c, rfl⟩ := h.shape
  exact h.capK

end Go.Proofs.Ytkkdjgiencilbaa

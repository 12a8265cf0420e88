/- Texts joined, with what the law reaches alone. -/
import Derived.Test.YtdcjefgafckmgaaGreatDoorSAA
import Derived.Test.YtdcjefgafckmgaaGreatDoorSAB
namespace Go.Proofs.YtdcjefgafckmgaaGreatDoor
open Go.RowKit
set_option linter.unusedVariables false
set_option maxRecDepth 100000
set_option linter.unusedSimpArgs false
/-- Only the blocks of F turn. -/
structure Out (F : List Nat) (w w' : World) : Prop where
  os : w'.os = w.os
  tape : w'.tape = w.tape
  output : w'.output = w.output
  size : w.heap.size ≤ w'.heap.size
  block : ∀ k, k < w.heap.size → k ∉ F → w'.heap[k]? = w.heap[k]?

theorem Out.refl (F : List Nat) (w : World) : Out F w w := ⟨rfl, rfl, rfl, Nat.le_refl _, fun _ _ _ => rfl⟩

theorem Out.trans {F : List Nat} {a b c : World} (h : Out F a b) (k : Out F b c) : Out F a c :=
  ⟨k.os.trans h.os, k.tape.trans h.tape, k.output.trans h.output, Nat.le_trans h.size k.size, fun i hi hn => (k.block i (Nat.lt_of_lt_of_le hi h.size) hn).trans (h.block i hi hn)⟩

theorem Out.mono {F G : List Nat} {w w' : World} (h : Out F w w') (hF : ∀ k ∈ F, k ∈ G) : Out G w w' := ⟨h.os, h.tape, h.output, h.size, fun k hk hn => h.block k hk (fun e => hn (hF k e))⟩

theorem Out.of_below {F : List Nat} {w w' : World} (h : Below w.heap.size w w') : Out F w w' := ⟨h.os, h.tape, h.output, h.size, fun k hk _ => h.block k hk⟩

theorem Out.of_grown {w w' : World} {row : Option Nat} (h : w.grownBy w' row) : Out row.toList w w' := ⟨h.os, h.tape, h.output, h.size, fun k hk hn => h.block k hk (fun e => hn (by rw [← e]; simp))⟩

theorem Out.setCell (w : World) (g j : Nat) (u : Value) : Out [g] w (w.setCell ⟨g, j, none⟩ u) := ⟨rfl, rfl, rfl, by simp, fun k _ hn => Below.heap_setCell w _ _ k (by simpa using hn)⟩

theorem Out.keep {B : Nat} {F : List Nat} {a w w' : World} (h : Below B a w) (ho : Out F w w') (hB : B ≤ w.heap.size) (hF : ∀ k ∈ F, B ≤ k) : Below B a w' :=
  ⟨ho.os.trans h.os, ho.tape.trans h.tape, ho.output.trans h.output, Nat.le_trans h.size ho.size, fun k hk => (ho.block k (by omega) (fun e => by have := hF k e; omega)).trans (h.block k hk)⟩

/-- The block that a slice begins in. -/
def blk (v : Value) : List Nat := v.ownBlock.toList

theorem own_outs {w w' : World} {base e s n : Nat} {v : Value} {xs : List Value} {F : List Nat} (h : w.ownsRow base e s v n xs) (ho : Out F w w') (hd : ∀ k ∈ blk v, k ∉ F) : w'.ownsRow base e s v n xs := by
  refine ⟨h.1, ?_⟩
  rcases h.2 with h2 | ⟨g, cap, cur, hv, hg, hh, r⟩
  · exact Or.inl h2
  · refine Or.inr ⟨g, cap, cur, hv, hg, ?_, r⟩
    rw [ho.block g (Array.getElem?_eq_some_iff.1 hh).1 (hd g (by rw [hv]; simp [blk, Value.ownBlock]))]
    exact hh

/-- A kind of elements: their cells, when they are read and owned, and the blocks beneath them. -/
structure Kind (P : Type) where
  ty : Nat
  size : Nat
  cells : P → List Value
  own : World → P → Prop
  rd : World → P → Prop
  foot : P → List Nat
  len : ∀ p, (cells p).length = size
  own_rd : ∀ {w p}, own w p → rd w p
  own_out : ∀ {w w' p F}, own w p → Out F w w' → (∀ k ∈ foot p, k ∉ F) → own w' p
  own_lt : ∀ {w p}, own w p → ∀ k ∈ foot p, k < w.heap.size
  rd_below : ∀ {w w' p}, rd w p → Below w.heap.size w w' → rd w' p

section
variable {P : Type} (K : Kind P)
def Kind.row (ps : List P) : List Value := ps.flatMap K.cells

/-- The slice v reads as these elements. -/
def Kind.At (w : World) (v : Value) (ps : List P) : Prop := ∃ a cap, v = .slice a ps.length cap ∧ Lies w a (K.row ps) ∧ ∀ p ∈ ps, K.rd w p

/-- The slice v owns these elements. -/
def Kind.Own (w : World) (v : Value) (ps : List P) : Prop := w.ownsRow 0 K.ty K.size v ps.length (K.row ps) ∧ ∀ p ∈ ps, K.own w p

/-- All blocks beneath a slice. -/
def Kind.fp (v : Value) (ps : List P) : List Nat := blk v ++ ps.flatMap K.foot

end
section
variable {P : Type} {K : Kind P} {w w' : World} {v : Value} {ps : List P}
theorem Kind.row_length (ps : List P) : (K.row ps).length = ps.length * K.size := by
  induction ps with
  | nil => simp [Kind.row]
  | cons p r ih =>
    simp only [Kind.row, List.flatMap_cons, List.length_append, K.len, List.length_cons] at ih ⊢
    rw [ih, Nat.add_mul]
    omega

theorem Kind.row_get (ps : List P) (i : Nat) (hi : i < ps.length) (j : Nat) (hj : j < K.size) : (K.row ps)[i * K.size + j]? = (K.cells ps[i])[j]? := by
  induction ps generalizing i with
  | nil => simp at hi
  | cons p r ih =>
    simp only [Kind.row, List.flatMap_cons]
    cases i with
    | zero =>
      rw [List.getElem?_append_left (by rw [K.len]; omega)]
      simp
    | succ i =>
      rw [List.getElem?_append_right (by rw [K.len, Nat.add_mul]; omega), K.len]
      have := ih i (by simpa using hi)
      simp only [Kind.row] at this
      rw [show (i + 1) * K.size + j - K.size = i * K.size + j by rw [Nat.add_mul]; omega, this]
      simp

theorem Kind.Own.at (h : K.Own w v ps) : K.At w v ps := by
  obtain ⟨a, c, rfl⟩ := own_shape h.1
  exact ⟨a, c, rfl, Lies.own h.1, fun p hp => K.own_rd (h.2 p hp)⟩

theorem Kind.At.below (h : K.At w v ps) (hb : Below w.heap.size w w') : K.At w' v ps := by
  obtain ⟨a, c, e, hl, hr⟩ := h
  exact ⟨a, c, e, hl.below hb, fun p hp => K.rd_below (hr p hp) hb⟩

theorem Kind.At.shape (h : K.At w v ps) : ∃ a cap, v = .slice a ps.length cap := by
  obtain ⟨a, c, e, _⟩ := h
  exact ⟨a, c, e⟩

theorem Kind.Own.shape (h : K.Own w v ps) : ∃ a cap, v = .slice a ps.length cap := own_shape h.1

theorem Kind.Own.out {F : List Nat} (h : K.Own w v ps) (ho : Out F w w') (hd : ∀ k ∈ K.fp v ps, k ∉ F) : K.Own w' v ps := by
  refine ⟨own_outs h.1 ho (fun k hk => hd k (by simp [Kind.fp, hk])), fun p hp => K.own_out (h.2 p hp) ho (fun k hk => hd k ?_)⟩
  simp only [Kind.fp, List.mem_append, List.mem_flatMap]
  exact Or.inr ⟨p, hp, hk⟩

theorem Kind.Own.below (h : K.Own w v ps) (hb : Below w.heap.size w w') : K.Own w' v ps := h.out (Out.of_below (F := []) hb) (fun _ _ => by simp)

theorem Kind.Own.lt (h : K.Own w v ps) : ∀ k ∈ K.fp v ps, k < w.heap.size := by
  intro k hk
  simp only [Kind.fp, List.mem_append, List.mem_flatMap] at hk
  rcases hk with hk | ⟨p, hp, hk⟩
  · exact (h.1.lt k (by simpa [blk] using hk)).2
  · exact K.own_lt (h.2 p hp) k hk

/-- The cells of element i, where the slice is read. -/
theorem Kind.At.cell {a : Option Addr} {n cap : Nat} (h : K.At w (.slice a n cap) ps) (hs : 0 < K.size) (i : Nat) (hi : i < ps.length) :
    ∃ b off, a = some ⟨b, off, none⟩ ∧ b < w.heap.size ∧ (∀ j x, (K.cells ps[i])[j]? = some x → w.cell? ⟨b, off + i * K.size + j, none⟩ = some x) ∧ K.rd w ps[i] := by
  obtain ⟨a', c, e, hl, hr⟩ := h
  simp only [Value.slice.injEq] at e
  obtain ⟨rfl, _, _⟩ := e
  rcases hl with h0 | ⟨b, off, ha, hlt, hc⟩
  · have := Kind.row_length (K := K) ps
    rw [h0] at this
    simp only [List.length_nil] at this
    have h1 : 1 * K.size ≤ ps.length * K.size := Nat.mul_le_mul_right _ (by omega)
    omega
  · refine ⟨b, off, ha, hlt, fun j x hx => ?_, hr _ (List.getElem_mem hi)⟩
    have hj : j < K.size := by rw [← K.len ps[i]]; exact (List.getElem?_eq_some_iff.1 hx).1
    rw [show off + i * K.size + j = off + (i * K.size + j) by omega]
    exact hc _ _ (by rw [Kind.row_get ps i hi j hj]; exact hx)

/-- The block of a slice that is owned and not empty. -/
theorem Kind.Own.blkOf {a : Option Addr} {n cap : Nat} (h : K.Own w (.slice a n cap) ps) (hn : 0 < ps.length) : ∃ g, a = some ⟨g, 0, none⟩ := by
  rcases h.1.2 with ⟨he, h0⟩ | ⟨g, cap, cur, he, r⟩
  · omega
  · simp only [Value.slice.injEq] at he
    exact ⟨g, he.1⟩

theorem Kind.Own.cell {g n cap : Nat} (h : K.Own w (.slice (some ⟨g, 0, none⟩) n cap) ps) (i : Nat) (hi : i < ps.length) (j : Nat) (x : Value) (hx : (K.cells ps[i])[j]? = some x) : w.cell? ⟨g, i * K.size + j, none⟩ = some x ∧ w.frozen? ⟨g, i * K.size + j, none⟩ = false := by
  obtain ⟨a', c, e⟩ := h.shape
  simp only [Value.slice.injEq] at e
  obtain ⟨_, rfl, _⟩ := e
  have hj : j < K.size := by rw [← K.len ps[i]]; exact (List.getElem?_eq_some_iff.1 hx).1
  have hlt : i * K.size + j < ps.length * K.size := by
    have : (i + 1) * K.size ≤ ps.length * K.size := Nat.mul_le_mul_right _ (by omega)
    rw [Nat.add_mul] at this
    omega
  exact ⟨by rw [h.1.cellAt _ hlt, Kind.row_get ps i hi j hj]; exact hx, h.1.frozenAt _⟩

/-- Cells that are written over from o on. -/
def setFrom (xs : List Value) (o : Nat) : List Value → List Value
  | [] => xs
  | y :: ys => setFrom (xs.set o y) (o + 1) ys

theorem setFrom_length (xs : List Value) (o : Nat) (ys : List Value) : (setFrom xs o ys).length = xs.length := by
  induction ys generalizing xs o with
  | nil => rfl
  | cons y ys ih => simp [setFrom, ih]

theorem setFrom_get (xs : List Value) (o : Nat) (ys : List Value) (j : Nat) (hj : j < xs.length) : (setFrom xs o ys)[j]? = if o ≤ j ∧ j < o + ys.length then ys[j - o]? else xs[j]? := by
  induction ys generalizing xs o with
  | nil =>
    rw [if_neg (by simp only [List.length_nil]; omega)]
    rfl
  | cons y ys ih =>
    rw [setFrom, ih (xs.set o y) (o + 1) (by simpa using hj)]
    by_cases h1 : o + 1 ≤ j ∧ j < o + 1 + ys.length
    · rw [if_pos h1, if_pos (by simp; omega), show j - o = (j - (o + 1)) + 1 by omega]
      simp
    · rw [if_neg h1, List.getElem?_set]
      by_cases h2 : o = j
      · subst h2
        rw [if_pos rfl, if_pos hj, if_pos (by simp)]
        simp
      · rw [if_neg h2, if_neg (by simp; omega)]

theorem Kind.row_put (ps : List P) (i : Nat) (hi : i < ps.length) (p : P) : setFrom (K.row ps) (i * K.size) (K.cells p) = K.row (ps.set i p) := by
  have hl := Kind.row_length (K := K) ps
  have hl2 := Kind.row_length (K := K) (ps.set i p)
  rw [List.length_set] at hl2
  have hi2 : (i + 1) * K.size ≤ ps.length * K.size := Nat.mul_le_mul_right _ (by omega)
  rw [Nat.add_mul, Nat.one_mul] at hi2
  apply List.ext_getElem?
  intro j
  by_cases hj : j < ps.length * K.size
  · rw [setFrom_get _ _ _ _ (by omega), K.len]
    have hs : 0 < K.size := by
      rcases Nat.eq_zero_or_pos K.size with h0 | h0
      · rw [h0] at hj; simp at hj
      · exact h0
    have hd := Nat.div_add_mod j K.size
    have hm := Nat.mod_lt j hs
    have hq : j / K.size < ps.length := Nat.div_lt_of_lt_mul (by rw [Nat.mul_comm]; exact hj)
    have e : j = j / K.size * K.size + j % K.size := by rw [Nat.mul_comm]; exact hd.symm
    have e2 := Kind.row_get (K := K) (ps.set i p) (j / K.size) (by simpa using hq) (j % K.size) hm
    rw [← e] at e2
    have e3 := Kind.row_get (K := K) ps (j / K.size) hq (j % K.size) hm
    rw [← e] at e3
    rw [e2, e3]
    by_cases hk : j / K.size = i
    · subst hk
      rw [if_pos (by omega)]
      simp only [List.getElem_set_self]
      congr 1
      omega
    · have hne : ¬ (i * K.size ≤ j ∧ j < i * K.size + K.size) := by
        rintro ⟨h1, h2⟩
        apply hk
        exact Nat.div_eq_of_lt_le (by omega) (by rw [Nat.add_mul]; omega)
      rw [if_neg hne, List.getElem_set_ne (Ne.symm hk)]
  · rw [List.getElem?_eq_none (by rw [setFrom_length]; omega), List.getElem?_eq_none (by omega)]

theorem Kind.row_store (ps : List P) (i : Nat) (hi : i < ps.length) (p : P) (j : Nat) (u : Value) (hc : K.cells p = (K.cells ps[i]).set j u) (hj : j < K.size) : (K.row ps).set (i * K.size + j) u = K.row (ps.set i p) := by
  rw [← Kind.row_put ps i hi p, hc]
  have hl := Kind.row_length (K := K) ps
  have hi2 : (i + 1) * K.size ≤ ps.length * K.size := Nat.mul_le_mul_right _ (by omega)
  rw [Nat.add_mul, Nat.one_mul] at hi2
  apply List.ext_getElem?
  intro k
  by_cases hk : k < ps.length * K.size
  · rw [setFrom_get _ _ _ _ (by omega), List.length_set, K.len, List.getElem?_set]
    by_cases h1 : i * K.size + j = k
    · subst h1
      rw [if_pos rfl, if_pos (by omega), if_pos (by omega), List.getElem?_set, if_pos (by omega), if_pos (by rw [K.len]; omega)]
    · rw [if_neg h1]
      by_cases h2 : i * K.size ≤ k ∧ k < i * K.size + K.size
      · rw [if_pos h2, List.getElem?_set, if_neg (by omega)]
        have := Kind.row_get (K := K) ps i hi (k - i * K.size) (by omega)
        rw [show i * K.size + (k - i * K.size) = k by omega] at this
        exact this
      · rw [if_neg h2]
  · rw [List.getElem?_eq_none (by simp; omega), List.getElem?_eq_none (by rw [setFrom_length]; omega)]

theorem foot_set (ps : List P) (i : Nat) (hi : i < ps.length) (p : P) (hf : K.foot p = K.foot ps[i]) : (ps.set i p).flatMap K.foot = ps.flatMap K.foot := by
  induction ps generalizing i with
  | nil => simp at hi
  | cons q r ih =>
    cases i with
    | zero => simp only [List.set_cons_zero, List.flatMap_cons, hf, List.getElem_cons_zero]
    | succ i => simp only [List.set_cons_succ, List.flatMap_cons, ih i (by simpa using hi) (by simpa using hf)]

theorem Kind.fp_set (v : Value) (ps : List P) (i : Nat) (hi : i < ps.length) (p : P) (hf : K.foot p = K.foot ps[i]) : K.fp v (ps.set i p) = K.fp v ps := by
  simp only [Kind.fp, foot_set ps i hi p hf]

theorem foot_apart {ps : List P} (h : (ps.flatMap K.foot).Nodup) (i : Nat) (hi : i < ps.length) (j : Nat) (hj : j < ps.length) (hne : i ≠ j) : ∀ k ∈ K.foot ps[j], k ∉ K.foot ps[i] := by
  induction ps generalizing i j with
  | nil => simp at hi
  | cons p r ih =>
    rw [List.flatMap_cons, List.nodup_append] at h
    obtain ⟨_, h2, h3⟩ := h
    intro k hk hk2
    cases i with
    | zero =>
      cases j with
      | zero => exact hne rfl
      | succ j =>
        simp only [List.getElem_cons_succ, List.getElem_cons_zero] at hk hk2
        exact h3 k hk2 k (List.mem_flatMap.2 ⟨_, List.getElem_mem (by simpa using hj), hk⟩) rfl
    | succ i =>
      cases j with
      | zero =>
        simp only [List.getElem_cons_succ, List.getElem_cons_zero] at hk hk2
        exact h3 k hk k (List.mem_flatMap.2 ⟨_, List.getElem_mem (by simpa using hi), hk2⟩) rfl
      | succ j =>
        simp only [List.getElem_cons_succ] at hk hk2
        exact ih h2 i (by simpa using hi) j (by simpa using hj) (by omega) k hk hk2

/-- One element is written over, its blocks and its other cells as they were. -/
theorem Kind.Own.store {g n cap : Nat} (h : K.Own w (.slice (some ⟨g, 0, none⟩) n cap) ps) (hnd : (K.fp (.slice (some ⟨g, 0, none⟩) n cap) ps).Nodup) (i : Nat) (hi : i < ps.length) (p : P) (j : Nat) (u : Value) (hj : j < K.size)
    (hc : K.cells p = (K.cells ps[i]).set j u) (hf : K.foot p = K.foot ps[i]) (hown : ∀ w', K.own w' ps[i] → K.own w' p) :
    K.Own (w.setCell ⟨g, i * K.size + j, none⟩ u) (.slice (some ⟨g, 0, none⟩) n cap) (ps.set i p) ∧ K.fp (.slice (some ⟨g, 0, none⟩) n cap) (ps.set i p) = K.fp (.slice (some ⟨g, 0, none⟩) n cap) ps := by
  obtain ⟨a', c, e⟩ := h.shape
  simp only [Value.slice.injEq] at e
  obtain ⟨_, rfl, _⟩ := e
  refine ⟨⟨?_, ?_⟩, Kind.fp_set _ ps i hi p hf⟩
  · have h1 := (h.1.stored (i * K.size + j) u).1
    rw [Kind.row_store ps i hi p j u hc hj] at h1
    rw [List.length_set]
    exact h1
  · have hg : ∀ q ∈ ps, ∀ k ∈ K.foot q, k ∉ [g] := by
      intro q hq k hk
      simp only [Kind.fp, blk, Value.ownBlock, Option.toList, List.cons_append, List.nil_append, List.nodup_cons] at hnd
      simp only [List.mem_singleton]
      rintro rfl
      exact hnd.1 (List.mem_flatMap.2 ⟨q, hq, hk⟩)
    have hall : ∀ q ∈ ps, K.own (w.setCell ⟨g, i * K.size + j, none⟩ u) q := fun q hq => K.own_out (h.2 q hq) (Out.setCell w g _ u) (hg q hq)
    intro q hq
    rcases List.mem_or_eq_of_mem_set hq with hq | rfl
    · exact hall q hq
    · exact hown _ (hall _ (List.getElem_mem hi))

/-- What lies beneath one element turns. -/
theorem Kind.Own.turn (h : K.Own w v ps) (hnd : (K.fp v ps).Nodup) (i : Nat) (hi : i < ps.length) (p : P) {F : List Nat} (ho : Out F w w') (hF : ∀ k ∈ F, k ∈ K.foot ps[i])
    (hc : K.cells p = K.cells ps[i]) (hf : K.foot p = K.foot ps[i]) (hown : K.own w' p) : K.Own w' v (ps.set i p) ∧ K.fp v (ps.set i p) = K.fp v ps := by
  have hnd2 := hnd
  simp only [Kind.fp] at hnd2
  rw [List.nodup_append] at hnd2
  refine ⟨⟨?_, ?_⟩, Kind.fp_set _ ps i hi p hf⟩
  · have e : K.row (ps.set i p) = K.row ps := by
      rw [← Kind.row_put ps i hi p, hc, Kind.row_put ps i hi ps[i], List.set_getElem_self]
    rw [e, List.length_set]
    refine own_outs h.1 ho (fun k hk hkF => ?_)
    exact hnd2.2.2 k hk k (List.mem_flatMap.2 ⟨ps[i], List.getElem_mem hi, hF k hkF⟩) rfl
  · intro q hq
    obtain ⟨j, hj, rfl⟩ := List.getElem_of_mem hq
    rw [List.length_set] at hj
    by_cases hij : i = j
    · subst hij
      rw [List.getElem_set_self]
      exact hown
    · rw [List.getElem_set_ne hij]
      exact K.own_out (h.2 _ (List.getElem_mem hj)) ho (fun k hk hkF => foot_apart hnd2.2.1 i hi j hj hij k hk (hF k hkF))

/-- A whole element is written over by a new one. -/
theorem Kind.Own.put {g n cap : Nat} (h : K.Own w (.slice (some ⟨g, 0, none⟩) n cap) ps) (i : Nat) (hi : i < ps.length) (p : P) (hrow : w'.ownsRow 0 K.ty K.size (.slice (some ⟨g, 0, none⟩) n cap) ps.length (setFrom (K.row ps) (i * K.size) (K.cells p)))
    (ho : Out [g] w w') (hg : ∀ q ∈ ps, ∀ k ∈ K.foot q, k ≠ g) (hown : K.own w p) (hp : ∀ k ∈ K.foot p, k ≠ g) : K.Own w' (.slice (some ⟨g, 0, none⟩) n cap) (ps.set i p) := by
  rw [Kind.row_put ps i hi p] at hrow
  refine ⟨by rw [List.length_set]; exact hrow, fun q hq => ?_⟩
  rcases List.mem_or_eq_of_mem_set hq with hq | rfl
  · exact K.own_out (h.2 q hq) ho (fun k hk => by simpa using hg q hq k hk)
  · exact K.own_out hown ho (fun k hk => by simpa using hp k hk)

/-- Marks: from c on, element by element. -/
def mkL (mk : Int → P → P) (nm : P → Nat) : Int → List P → List P
  | _, [] => []
  | c, p :: r => mk c p :: mkL mk nm (c + nm p) r

def nmL (nm : P → Nat) (ps : List P) : Nat := (ps.map nm).sum

theorem mkL_length (mk : Int → P → P) (nm : P → Nat) (c : Int) (ps : List P) : (mkL mk nm c ps).length = ps.length := by
  induction ps generalizing c with
  | nil => rfl
  | cons p r ih => simp [mkL, ih]

theorem nmL_succ (nm : P → Nat) (ps : List P) (k : Nat) (h : k < ps.length) : nmL nm (ps.take (k + 1)) = nmL nm (ps.take k) + nm ps[k] := by
  rw [List.take_succ_eq_append_getElem h]
  simp only [nmL, List.map_append, List.map_cons, List.map_nil, List.sum_append, List.sum_cons, List.sum_nil, Nat.add_zero]

theorem nmL_le (nm : P → Nat) (ps : List P) (k : Nat) : nmL nm (ps.take k) ≤ nmL nm ps := by
  have e : nmL nm ps = nmL nm (ps.take k) + nmL nm (ps.drop k) := by
    conv => lhs; rw [← List.take_append_drop k ps]
    simp only [nmL, List.map_append, List.sum_append]
  omega

theorem mkL_get (mk : Int → P → P) (nm : P → Nat) (c : Int) (ps : List P) (k : Nat) (h : k < ps.length) : (mkL mk nm c ps)[k]'(by rw [mkL_length]; exact h) = mk (c + nmL nm (ps.take k)) ps[k] := by
  induction ps generalizing c k with
  | nil => simp at h
  | cons p r ih =>
    cases k with
    | zero => simp [mkL, nmL]
    | succ k =>
      simp only [mkL, List.getElem_cons_succ, List.take_succ_cons]
      rw [ih (c + nm p) k (by simpa using h)]
      congr 1
      simp only [nmL, List.map_cons, List.sum_cons]
      omega

/-- The first k elements marked. -/
def half (mk : Int → P → P) (nm : P → Nat) (c : Int) (ps : List P) (k : Nat) : List P := (mkL mk nm c ps).take k ++ ps.drop k

theorem half_zero (mk : Int → P → P) (nm : P → Nat) (c : Int) (ps : List P) : half mk nm c ps 0 = ps := by simp [half]

theorem half_all (mk : Int → P → P) (nm : P → Nat) (c : Int) (ps : List P) : half mk nm c ps ps.length = mkL mk nm c ps := by
  have := mkL_length mk nm c ps
  simp [half, List.take_of_length_le (show (mkL mk nm c ps).length ≤ ps.length by omega)]

theorem half_length (mk : Int → P → P) (nm : P → Nat) (c : Int) (ps : List P) (k : Nat) (hk : k ≤ ps.length) : (half mk nm c ps k).length = ps.length := by
  have := mkL_length mk nm c ps
  simp [half]
  omega

theorem half_get (mk : Int → P → P) (nm : P → Nat) (c : Int) (ps : List P) (k : Nat) (hk : k < ps.length) : (half mk nm c ps k)[k]'(by rw [half_length _ _ _ _ _ (by omega)]; exact hk) = ps[k] := by
  have := mkL_length mk nm c ps
  simp only [half]
  rw [List.getElem_append_right (by simp; omega)]
  simp only [List.length_take, this, List.getElem_drop]
  congr 1
  omega

theorem half_set (mk : Int → P → P) (nm : P → Nat) (c : Int) (ps : List P) (k : Nat) (hk : k < ps.length) : (half mk nm c ps k).set k (mk (c + nmL nm (ps.take k)) ps[k]) = half mk nm c ps (k + 1) := by
  have hm := mkL_length mk nm c ps
  rw [← mkL_get mk nm c ps k hk]
  simp only [half]
  rw [List.set_append_right _ _ (by simp; omega), show k - ((mkL mk nm c ps).take k).length = 0 by simp; omega, List.drop_eq_getElem_cons hk, List.set_cons_zero, List.take_succ_eq_append_getElem (show k < (mkL mk nm c ps).length by omega), List.append_assoc]
  rfl

end
end Go.Proofs.YtdcjefgafckmgaaGreatDoor
namespace Go.Proofs.YtdcjefgafckmgaaGreatDoor
open Go.RowKit
set_option linter.unusedVariables false
set_option maxRecDepth 100000
set_option linter.unusedSimpArgs false
section
variable {P : Type} {K : Kind P} {w w' : World} {v : Value} {ps : List P}
theorem made_row (z : P) (n : Nat) (hs : 0 < K.size) : (madeCells (K.cells z).toArray (n * K.size)).toList = K.row (List.replicate n z) := by
  have hl := Kind.row_length (K := K) (List.replicate n z)
  rw [List.length_replicate] at hl
  apply List.ext_getElem?
  intro j
  by_cases hj : j < n * K.size
  · have hm := Nat.mod_lt j hs
    have hq : j / K.size < n := Nat.div_lt_of_lt_mul (by rw [Nat.mul_comm]; exact hj)
    have e : j = j / K.size * K.size + j % K.size := by rw [Nat.mul_comm]; exact (Nat.div_add_mod j K.size).symm
    have e2 := Kind.row_get (K := K) (List.replicate n z) (j / K.size) (by simpa using hq) (j % K.size) hm
    rw [← e] at e2
    rw [e2]
    have hz : (K.cells z).length = K.size := K.len z
    simp only [madeCells, Array.toList_map, Array.toList_range, List.getElem?_map, List.getElem?_range hj, Option.map_some, List.size_toArray, hz, List.getElem_replicate]
    rw [List.getElem!_toArray, List.getElem?_eq_getElem (by omega), getElem!_pos (K.cells z) (j % K.size) (by omega)]
  · rw [List.getElem?_eq_none (by simp [size_madeCells]; omega), List.getElem?_eq_none (by omega)]

theorem fp_new {z : P} {n g cap : Nat} (hz : K.foot z = []) : K.fp (.slice (some ⟨g, 0, none⟩) n cap) (List.replicate n z) = [g] := by
  have : (List.replicate n z).flatMap K.foot = [] := by
    rw [List.flatMap_eq_nil_iff]
    intro x hx
    rw [(List.mem_replicate.1 hx).2, hz]
  simp [Kind.fp, blk, Value.ownBlock, this]

theorem set_split (ps : List P) (i : Nat) (hi : i < ps.length) (p : P) : ps.set i p = ps.take i ++ p :: ps.drop (i + 1) := by
  rw [List.set_eq_take_append_cons_drop, if_pos hi]

theorem mem_foot_set {ps : List P} {i : Nat} (hi : i < ps.length) {p : P} {k : Nat} (h : k ∈ (ps.set i p).flatMap K.foot) : k ∈ ps.flatMap K.foot ∨ k ∈ K.foot p := by
  obtain ⟨q, hq, hk⟩ := List.mem_flatMap.1 h
  rcases List.mem_or_eq_of_mem_set hq with hq | rfl
  · exact Or.inl (List.mem_flatMap.2 ⟨q, hq, hk⟩)
  · exact Or.inr hk

theorem nodup_put {ps : List P} (h : (K.fp v ps).Nodup) (i : Nat) (hi : i < ps.length) (p : P) (h0 : K.foot ps[i] = []) (hp : (K.foot p).Nodup) (hd : ∀ k ∈ K.foot p, k ∉ K.fp v ps) : (K.fp v (ps.set i p)).Nodup := by
  have e : ps = ps.take i ++ ps[i] :: ps.drop (i + 1) := by
    conv => lhs; rw [← List.take_append_drop i ps, List.drop_eq_getElem_cons hi]
  have hA : K.fp v ps = blk v ++ ((ps.take i).flatMap K.foot ++ (ps.drop (i + 1)).flatMap K.foot) := by
    conv => lhs; rw [e]
    simp only [Kind.fp, List.flatMap_append, List.flatMap_cons, h0, List.nil_append]
  rw [hA] at h hd
  simp only [Kind.fp]
  rw [set_split ps i hi p]
  simp only [List.flatMap_append, List.flatMap_cons]
  generalize blk v = A at *
  generalize (ps.take i).flatMap K.foot = B at *
  generalize (ps.drop (i + 1)).flatMap K.foot = C at *
  generalize K.foot p = D at *
  simp only [List.nodup_append, List.mem_append] at h hd ⊢
  obtain ⟨hA1, ⟨hB1, hC1, hBC⟩, hABC⟩ := h
  refine ⟨hA1, ⟨hB1, ⟨hp, hC1, ?_⟩, ?_⟩, ?_⟩
  · rintro a ha b hb rfl
    exact hd a ha (Or.inr (Or.inr hb))
  · rintro a ha b (hb | hb) rfl
    · exact hd a hb (Or.inr (Or.inl ha))
    · exact hBC a ha a hb rfl
  · rintro a ha b (hb | hb | hb) rfl
    · exact hABC a ha a (Or.inl hb) rfl
    · exact hd a hb (Or.inl ha)
    · exact hABC a ha a (Or.inr hb) rfl

section
variable {g n cap k : Nat} {hs : List P} {p : P}
theorem Kind.Own.elem' (h : K.Own w v (hs.set k p)) (hk : k < hs.length) : K.own w p := h.2 p (List.mem_set hk p)

theorem Kind.Own.cell' (h : K.Own w (.slice (some ⟨g, 0, none⟩) n cap) (hs.set k p)) (hk : k < hs.length) (j : Nat) (x : Value) (hx : (K.cells p)[j]? = some x) : w.cell? ⟨g, k * K.size + j, none⟩ = some x ∧ w.frozen? ⟨g, k * K.size + j, none⟩ = false :=
  h.cell k (by simpa using hk) j x (by rw [List.getElem_set_self]; exact hx)

theorem Kind.Own.store' (h : K.Own w (.slice (some ⟨g, 0, none⟩) n cap) (hs.set k p)) (hnd : (K.fp (.slice (some ⟨g, 0, none⟩) n cap) (hs.set k p)).Nodup) (hk : k < hs.length) (p' : P) (j : Nat) (u : Value) (hj : j < K.size)
    (hc : K.cells p' = (K.cells p).set j u) (hf : K.foot p' = K.foot p) (hown : ∀ w', K.own w' p → K.own w' p') :
    K.Own (w.setCell ⟨g, k * K.size + j, none⟩ u) (.slice (some ⟨g, 0, none⟩) n cap) (hs.set k p') ∧ (K.fp (.slice (some ⟨g, 0, none⟩) n cap) (hs.set k p')).Nodup := by
  have hk' : k < (hs.set k p).length := by simpa using hk
  have e : (hs.set k p)[k] = p := List.getElem_set_self (h := hk')
  obtain ⟨h1, h2⟩ := h.store hnd k hk' p' j u hj (by rw [e]; exact hc) (by rw [e]; exact hf) (by rw [e]; exact hown)
  rw [List.set_set] at h1 h2
  exact ⟨h1, by rw [h2]; exact hnd⟩

theorem Kind.Own.turn' (h : K.Own w v (hs.set k p)) (hnd : (K.fp v (hs.set k p)).Nodup) (hk : k < hs.length) (p' : P) {F : List Nat} (ho : Out F w w') (hF : ∀ x ∈ F, x ∈ K.foot p) (hc : K.cells p' = K.cells p) (hf : K.foot p' = K.foot p) (hown : K.own w' p') :
    K.Own w' v (hs.set k p') ∧ (K.fp v (hs.set k p')).Nodup := by
  have hk' : k < (hs.set k p).length := by simpa using hk
  have e : (hs.set k p)[k] = p := List.getElem_set_self (h := hk')
  obtain ⟨h1, h2⟩ := h.turn hnd k hk' p' ho (by rw [e]; exact hF) (by rw [e]; exact hc) (by rw [e]; exact hf) hown
  rw [List.set_set] at h1 h2
  exact ⟨h1, by rw [h2]; exact hnd⟩

end
theorem foot_mkL {mk : Int → P → P} {nm : P → Nat} (hf : ∀ c p, K.foot (mk c p) = K.foot p) (c : Int) (ps : List P) : (mkL mk nm c ps).flatMap K.foot = ps.flatMap K.foot := by
  induction ps generalizing c with
  | nil => rfl
  | cons p r ih => simp only [mkL, List.flatMap_cons, hf, ih]

theorem fp_mkL {mk : Int → P → P} {nm : P → Nat} (hf : ∀ c p, K.foot (mk c p) = K.foot p) (v : Value) (c : Int) (ps : List P) : K.fp v (mkL mk nm c ps) = K.fp v ps := by simp only [Kind.fp, foot_mkL hf]

theorem fp_half {mk : Int → P → P} {nm : P → Nat} (hf : ∀ c p, K.foot (mk c p) = K.foot p) (v : Value) (c : Int) (ps : List P) (k : Nat) : K.fp v (half mk nm c ps k) = K.fp v ps := by
  have h1 : ((mkL mk nm c ps).take k).flatMap K.foot = (ps.take k).flatMap K.foot := by
    have e : (mkL mk nm c ps).take k = mkL mk nm c (ps.take k) := by
      induction ps generalizing c k with
      | nil => simp [mkL]
      | cons p r ih =>
        cases k with
        | zero => simp [mkL]
        | succ k => simp only [mkL, List.take_succ_cons, ih]
    rw [e, foot_mkL hf]
  simp only [Kind.fp, half, List.flatMap_append, h1]
  rw [← List.flatMap_append, List.take_append_drop]

end
theorem Out.set {F : List Nat} {w W : World} {b j : Nat} {u : Value} (h : Out F w W) (hb : b ∈ F) : Out F w (W.setCell ⟨b, j, none⟩ u) := h.trans ((Out.setCell W b j u).mono (fun k hk => by simp only [List.mem_singleton] at hk; rw [hk]; exact hb))

theorem Out.call {F : List Nat} {w W W' : World} (h : Out F w W) (hb : Below W.heap.size W W') : Out F w W' := h.trans (Out.of_below hb)

theorem Below.call {B : Nat} {w W W' : World} (h : Below B w W) (hs : B ≤ W.heap.size) (hb : Below W.heap.size W W') : Below B w W' := h.trans (hb.mono hs)

/-- A row of cells is written over, place by place. -/
theorem own_setFrom {w : World} {base e s g n cap : Nat} {xs : List Value} (h : w.ownsRow base e s (.slice (some ⟨g, 0, none⟩) n cap) n xs) (o : Nat) (ys : List Value) :
    (ys.zipIdx.foldl (fun w (y : Value × Nat) => w.setCell ⟨g, o + y.2, none⟩ y.1) w).ownsRow base e s (.slice (some ⟨g, 0, none⟩) n cap) n (setFrom xs o ys) := by
  suffices H : ∀ (ys : List Value) (w : World) (xs : List Value) (d : Nat), w.ownsRow base e s (.slice (some ⟨g, 0, none⟩) n cap) n xs → ((ys.zipIdx d).foldl (fun w (y : Value × Nat) => w.setCell ⟨g, o + y.2, none⟩ y.1) w).ownsRow base e s (.slice (some ⟨g, 0, none⟩) n cap) n (setFrom xs (o + d) ys) from H ys w xs 0 h
  intro ys
  induction ys with
  | nil => intro w xs d h; exact h
  | cons y ys ih =>
    intro w xs d h
    have := ih (w.setCell ⟨g, o + d, none⟩ y) (xs.set (o + d) y) (d + 1) (h.stored (o + d) y).1
    simpa [List.zipIdx_cons, setFrom, Nat.add_assoc] using this

end Go.Proofs.YtdcjefgafckmgaaGreatDoor
namespace Go.Proofs.YtdcjefgafckmgaaGreatDoor
open Go.RowKit
open Go.BigFrame
set_option linter.unusedVariables false
set_option maxRecDepth 100000
set_option linter.unusedSimpArgs false
structure TxnD where
  id : Int
  session : Int
  seq : Int
  acts : List ActD

def txnNo : TxnD := ⟨0, 0, 0, []⟩

/-- A transaction, and where its acts lie. -/
structure TxnP where
  d : TxnD
  a : Option Addr
  cap : Nat

def TxnP.sl (p : TxnP) : Value := .slice p.a p.d.acts.length p.cap

def TxnP.cells (p : TxnP) : List Value := [.int .i64 p.d.id, .int .i64 p.d.session, .int .i64 p.d.seq, p.sl]

def txnCells (ps : List TxnP) : List Value := ps.flatMap TxnP.cells

def txnPNo : TxnP := ⟨txnNo, none, 0⟩

theorem txnCells_length (ps : List TxnP) : (txnCells ps).length = ps.length * 4 := by
  induction ps with
  | nil => rfl
  | cons x xs ih => simp only [txnCells, List.flatMap_cons, List.length_append, List.length_cons] at ih ⊢; rw [ih]; simp [TxnP.cells]; omega

theorem txnCells_get (ps : List TxnP) : ∀ (i : Nat), i < ps.length → (txnCells ps)[i * 4]? = some (.int .i64 (ps.getD i txnPNo).d.id) ∧ (txnCells ps)[i * 4 + 1]? = some (.int .i64 (ps.getD i txnPNo).d.session) ∧ (txnCells ps)[i * 4 + 2]? = some (.int .i64 (ps.getD i txnPNo).d.seq) ∧ (txnCells ps)[i * 4 + 3]? = some (ps.getD i txnPNo).sl := by
  induction ps with
  | nil => intro i h; simp at h
  | cons x xs ih =>
    intro i h
    cases i with
    | zero => simp [txnCells, TxnP.cells]
    | succ i =>
      have e : txnCells (x :: xs) = x.cells ++ txnCells xs := rfl
      have hl : x.cells.length = 4 := rfl
      obtain ⟨h1, h2, h3, h4⟩ := ih i (by simpa using h)
      rw [e, List.getElem?_append_right (by omega), List.getElem?_append_right (by omega), List.getElem?_append_right (by omega), List.getElem?_append_right (by omega), hl, show (i + 1) * 4 - 4 = i * 4 by omega, show (i + 1) * 4 + 1 - 4 = i * 4 + 1 by omega, show (i + 1) * 4 + 2 - 4 = i * 4 + 2 by omega, show (i + 1) * 4 + 3 - 4 = i * 4 + 3 by omega]
      simpa [List.getD] using ⟨h1, h2, h3, h4⟩

/-- v is a slice that reads as these transactions. -/
def TxnsAt (w : World) (v : Value) (ds : List TxnD) : Prop :=
  ∃ a cap ps, v = .slice a ds.length cap ∧ ps.map TxnP.d = ds ∧ Lies w a (txnCells ps) ∧ ∀ p ∈ ps, ActRow w p.a p.d.acts

theorem TxnsAt.below {w w' : World} {v : Value} {ds : List TxnD} (h : TxnsAt w v ds) (hb : Below w.heap.size w w') : TxnsAt w' v ds := by
  obtain ⟨a, cap, ps, e, hd, hL, hA⟩ := h
  exact ⟨a, cap, ps, e, hd, hL.below hb, fun p hp => (hA p hp).below hb⟩

theorem TxnsAt.shape {w : World} {v : Value} {ds : List TxnD} (h : TxnsAt w v ds) : ∃ a cap, v = .slice a ds.length cap := by
  obtain ⟨a, cap, _, e, _⟩ := h
  exact ⟨a, cap, e⟩

theorem TxnsAt.at {w : World} {a : Option Addr} {n cap : Nat} {ds : List TxnD} (h : TxnsAt w (.slice a n cap) ds) (i : Nat) (hi : i < ds.length) :
    ∃ b off aa cc, a = some ⟨b, off, none⟩ ∧ b < w.heap.size ∧ w.cell? ⟨b, off + i * 4, none⟩ = some (.int .i64 (ds.getD i txnNo).id) ∧ w.cell? ⟨b, off + i * 4 + 1, none⟩ = some (.int .i64 (ds.getD i txnNo).session) ∧ w.cell? ⟨b, off + i * 4 + 2, none⟩ = some (.int .i64 (ds.getD i txnNo).seq) ∧
      w.cell? ⟨b, off + i * 4 + 3, none⟩ = some (.slice aa (ds.getD i txnNo).acts.length cc) ∧ ActRow w aa (ds.getD i txnNo).acts := by
  obtain ⟨a', cap', ps, e, hd, hL, hA⟩ := h
  simp only [Value.slice.injEq] at e
  obtain ⟨rfl, _, _⟩ := e
  have hl : ps.length = ds.length := by rw [← hd]; simp
  obtain ⟨h1, h2, h3, h4⟩ := txnCells_get ps i (by omega)
  have hp : (ps.getD i txnPNo).d = ds.getD i txnNo := by
    rw [← hd]
    simp [List.getD, show i < ps.length by omega]
  have hm : ps.getD i txnPNo ∈ ps := by simp [List.getD, show i < ps.length by omega]
  rcases hL with h | ⟨b, off, ha, hlt, hc⟩
  · have := txnCells_length ps
    rw [h] at this
    simp at this
    omega
  · have hAA := hA _ hm
    rw [hp] at hAA h1 h2 h3
    refine ⟨b, off, (ps.getD i txnPNo).a, (ps.getD i txnPNo).cap, ha, hlt, hc _ _ h1, by rw [Nat.add_assoc]; exact hc _ _ h2, by rw [Nat.add_assoc]; exact hc _ _ h3, ?_, hAA⟩
    rw [Nat.add_assoc, hc _ _ h4]
    simp only [TxnP.sl, hp]

/-- v is a slice of transactions, all of whose memory lies in blocks from lo up to hi, and is its own. -/
def OwnTxns (lo hi : Nat) (w : World) (v : Value) (ds : List TxnD) : Prop :=
  ∃ g cap ps, v = .slice (some ⟨g, 0, none⟩) ds.length cap ∧ g < hi ∧ ps.map TxnP.d = ds ∧ w.ownsRow lo 44 4 (.slice (some ⟨g, 0, none⟩) ds.length cap) ds.length (txnCells ps) ∧
    ∀ p ∈ ps, w.ownsRow lo 129 3 p.sl p.d.acts.length (actCells p.d.acts) ∧ ∀ k, p.sl.ownBlock = some k → k < hi ∧ k ≠ g

-- 44

theorem OwnTxns.row {lo hi : Nat} {w : World} {v : Value} {ds : List TxnD} (h : OwnTxns lo hi w v ds) : TxnsAt w v ds := by
  obtain ⟨g, cap, ps, e, _, hd, ho, hp⟩ := h
  exact ⟨_, cap, ps, e, hd, Lies.own ho, fun p hm => Lies.own (hp p hm).1⟩

-- 44

theorem OwnTxns.below {lo hi : Nat} {w w' : World} {v : Value} {ds : List TxnD} (h : OwnTxns lo hi w v ds) (hb : Below w.heap.size w w') : OwnTxns lo hi w' v ds := by
  obtain ⟨g, cap, ps, e, hg, hd, ho, hp⟩ := h
  exact ⟨g, cap, ps, e, hg, hd, own_below ho hb, fun p hm => ⟨own_below (hp p hm).1 hb, (hp p hm).2⟩⟩

def sumA (ds : List TxnD) : Nat := (ds.map (fun d => d.acts.length)).sum

theorem mem_le_sumA {ds : List TxnD} {d : TxnD} (h : d ∈ ds) : d.acts.length ≤ sumA ds := by
  induction ds with
  | nil => simp at h
  | cons x r ih =>
    simp only [sumA, List.map_cons, List.sum_cons] at ih ⊢
    rcases List.mem_cons.1 h with rfl | h
    · omega
    · have := ih h; omega

theorem infoTxn : (Tryz.prog.info? 44).map (fun i => (i.zero, i.size, i.bytes)) = some (some (.agg #[.int .i64 0, .int .i64 0, .int .i64 0, .slice none 0 0]), 4, 48) := by kernel_rfl

end Go.Proofs.YtdcjefgafckmgaaGreatDoor
namespace Go.Proofs.YtdcjefgafckmgaaGreatDoor
open Go.RowKit
set_option linter.unusedVariables false
set_option maxRecDepth 100000
set_option linter.unusedSimpArgs false
/-- Numbers. -/
def intK : Kind Int where
  ty := 2
  size := 1
  cells n := [.int .i64 n]
  own _ _ := True
  rd _ _ := True
  foot _ := []
  len _ := rfl
  own_rd _ := trivial
  own_out _ _ _ := trivial
  own_lt _ k hk := by simp at hk
  rd_below _ _ := trivial

/-- Acts. -/
def actK : Kind ActD where
  ty := 129
  size := 3
  cells := ActD.cells
  own _ _ := True
  rd _ _ := True
  foot _ := []
  len _ := rfl
  own_rd _ := trivial
  own_out _ _ _ := trivial
  own_lt _ k hk := by simp at hk
  rd_below _ _ := trivial

/-- A transaction where it lies. -/
structure TxnQ where
  i : Int
  s : Int
  q : Int
  va : Value
  acts : List ActD

def txnK : Kind TxnQ where
  ty := 44
  size := 4
  cells p := [.int .i64 p.i, .int .i64 p.s, .int .i64 p.q, p.va]
  own w p := actK.Own w p.va p.acts
  rd w p := actK.At w p.va p.acts
  foot p := actK.fp p.va p.acts
  len _ := rfl
  own_rd h := h.at
  own_out h ho hd := h.out ho hd
  own_lt h := h.lt
  rd_below h hb := h.below hb

/-- What a transaction tells, without where it lies. -/
def TxnQ.e (p : TxnQ) : TxnD := ⟨p.i, p.s, p.q, p.acts⟩

/-- How much there is. -/
def TxnD.n (d : TxnD) : Nat := d.acts.length

def txnsN (ds : List TxnD) : Nat := ds.length + nmL TxnD.n ds

end Go.Proofs.YtdcjefgafckmgaaGreatDoor
namespace Go.Proofs.YtdcjefgafckmgaaGreatDoor
open Go.RowKit
set_option linter.unusedVariables false
set_option maxRecDepth 100000
set_option linter.unusedSimpArgs false
/-- A round where it lies. -/
structure RoundQ where
  vr : Value
  rep : List Int
  vp : Value
  pro : List Int

def roundK : Kind RoundQ where
  ty := 133
  size := 2
  cells p := [p.vr, p.vp]
  own w p := intK.Own w p.vr p.rep ∧ intK.Own w p.vp p.pro
  rd w p := intK.At w p.vr p.rep ∧ intK.At w p.vp p.pro
  foot p := intK.fp p.vr p.rep ++ intK.fp p.vp p.pro
  len _ := rfl
  own_rd h := ⟨h.1.at, h.2.at⟩
  own_out h ho hd := ⟨h.1.out ho (fun k hk => hd k (List.mem_append_left _ hk)), h.2.out ho (fun k hk => hd k (List.mem_append_right _ hk))⟩
  own_lt h k hk := by
    rcases List.mem_append.1 hk with hk | hk
    · exact h.1.lt k hk
    · exact h.2.lt k hk
  rd_below h hb := ⟨h.1.below hb, h.2.below hb⟩

/-- An instance where it lies. -/
structure InstQ where
  has : Bool
  vb : Value
  batch : List TxnQ
  vr : Value
  rounds : List RoundQ
  vd : Value
  dec : List Int

def instK : Kind InstQ where
  ty := 49
  size := 4
  cells p := [.bool p.has, p.vb, p.vr, p.vd]
  own w p := txnK.Own w p.vb p.batch ∧ roundK.Own w p.vr p.rounds ∧ intK.Own w p.vd p.dec
  rd w p := txnK.At w p.vb p.batch ∧ roundK.At w p.vr p.rounds ∧ intK.At w p.vd p.dec
  foot p := txnK.fp p.vb p.batch ++ (roundK.fp p.vr p.rounds ++ intK.fp p.vd p.dec)
  len _ := rfl
  own_rd h := ⟨h.1.at, h.2.1.at, h.2.2.at⟩
  own_out h ho hd := ⟨h.1.out ho (fun k hk => hd k (List.mem_append_left _ hk)), h.2.1.out ho (fun k hk => hd k (List.mem_append_right _ (List.mem_append_left _ hk))), h.2.2.out ho (fun k hk => hd k (List.mem_append_right _ (List.mem_append_right _ hk)))⟩
  own_lt h k hk := by
    rcases List.mem_append.1 hk with hk | hk
    · exact h.1.lt k hk
    · rcases List.mem_append.1 hk with hk | hk
      · exact h.2.1.lt k hk
      · exact h.2.2.lt k hk
  rd_below h hb := ⟨h.1.below hb, h.2.1.below hb, h.2.2.below hb⟩

/-- What they tell, without where they lie. -/
structure RoundE where
  rep : List Int
  pro : List Int

structure InstE where
  has : Bool
  batch : List TxnD
  rounds : List RoundE
  dec : List Int

def RoundQ.e (p : RoundQ) : RoundE := ⟨p.rep, p.pro⟩

def InstQ.e (p : InstQ) : InstE := ⟨p.has, p.batch.map TxnQ.e, p.rounds.map RoundQ.e, p.dec⟩

/-- How much there is. -/
def RoundE.n (d : RoundE) : Nat := d.rep.length + d.pro.length

def roundsN (ds : List RoundE) : Nat := ds.length + nmL RoundE.n ds

def InstE.n (d : InstE) : Nat := txnsN d.batch + roundsN d.rounds + d.dec.length

end Go.Proofs.YtdcjefgafckmgaaGreatDoor
namespace Go.Proofs.YtdcjefgafckmgaaGreatDoor
open Go.RowKit
set_option linter.unusedVariables false
set_option maxRecDepth 100000
set_option linter.unusedSimpArgs false
end Go.Proofs.YtdcjefgafckmgaaGreatDoor
namespace Go.Proofs.YtdcjefgafckmgaaGreatDoor
open Go.RowKit
open Go.BigFrame
set_option linter.unusedVariables false
set_option maxRecDepth 100000
set_option linter.unusedSimpArgs false
theorem inW_true {n lo hi : Int} : inW n lo hi = true ↔ lo ≤ n ∧ n ≤ hi := by simp [inW]

theorem actsF_all {zs : List ActD} (h : actsF zs = 0) : ∀ z ∈ zs, actF z = 0 := by
  induction zs with
  | nil => simp
  | cons x r ih =>
    simp only [actsF] at h
    split at h
    · rename_i hx
      intro z hz
      rcases List.mem_cons.1 hz with rfl | hz
      · exact hx
      · exact ih h z hz
    · rename_i hx; exact absurd h hx

theorem txnF_zero {i s q : Int} {zs : List ActD} (h : txnF i s q zs = 0) : (1 ≤ i ∧ i ≤ 200) ∧ (1 ≤ s ∧ s ≤ 9) ∧ (1 ≤ q ∧ q ≤ 99) ∧ (1 ≤ zs.length ∧ zs.length ≤ 4) ∧ ∀ z ∈ zs, actF z = 0 := by
  unfold txnF at h
  split at h
  · simp at h
  · rename_i h1
    split at h
    · simp at h
    · rename_i h2
      simp only [not_or, Bool.not_eq_false, inW_true] at h1
      exact ⟨h1.1, h1.2.1, h1.2.2, by omega, actsF_all h⟩

theorem Box4.cells {w : World} {b o : Nat} {x0 x1 x2 x3 : Value} (h : Box4 w b o x0 x1 x2 x3) : b < w.heap.size := World.block_lt_of_cell? w ⟨b, o, none⟩ h.c0

end Go.Proofs.YtdcjefgafckmgaaGreatDoor
namespace Go.Proofs.YtdcjefgafckmgaaGreatDoor
open Go.RowKit
open Go.BigFrame
set_option linter.unusedVariables false
set_option maxRecDepth 100000
set_option linter.unusedSimpArgs false
/-- A box of two cells that may be written. -/
structure Box2 (w : World) (b : Nat) (x y : Value) : Prop where
  lt : b < w.heap.size
  c0 : w.cell? ⟨b, 0, none⟩ = some x
  c1 : w.cell? ⟨b, 1, none⟩ = some y
  f0 : w.frozen? ⟨b, 0, none⟩ = false
  f1 : w.frozen? ⟨b, 1, none⟩ = false

theorem Box2.below {w w' : World} {b : Nat} {x y : Value} (h : Box2 w b x y) (hb : Below w.heap.size w w') : Box2 w' b x y :=
  ⟨Nat.lt_of_lt_of_le h.lt hb.size, by rw [hb.cell (p := ⟨b, 0, none⟩) h.lt]; exact h.c0, by rw [hb.cell (p := ⟨b, 1, none⟩) h.lt]; exact h.c1, by rw [hb.frozen (p := ⟨b, 0, none⟩) h.lt]; exact h.f0, by rw [hb.frozen (p := ⟨b, 1, none⟩) h.lt]; exact h.f1⟩

end Go.Proofs.YtdcjefgafckmgaaGreatDoor
namespace Go.Proofs.YtdcjefgafckmgaaGreatDoor
open Go.RowKit
open Go.BigFrame
set_option linter.unusedVariables false
set_option maxRecDepth 100000
set_option linter.unusedSimpArgs false
def TxnD.F (d : TxnD) : Int := txnF d.id d.session d.seq d.acts

def allF : List TxnD → Int
  | [] => 0
  | d :: r => if d.F = 0 then allF r else d.F

def idsC (ds : List TxnD) : Int := if 60 < ds.length then 2 else allF ds

def idsR (ds : List TxnD) : List Int := if idsC ds = 0 then ds.map TxnD.id else []

def idsL (ds : List TxnD) (k : Nat) : List Int := (ds.take k).map TxnD.id

theorem idsL_succ (ds : List TxnD) (k : Nat) (h : k < ds.length) : idsL ds (k + 1) = idsL ds k ++ [(ds.getD k txnNo).id] := by
  have e : ds.getD k txnNo = ds[k] := by simp [List.getD, h]
  rw [idsL, idsL, List.take_succ_eq_append_getElem h, e]
  simp only [List.map_append, List.map_cons, List.map_nil]

theorem idsL_length (ds : List TxnD) (k : Nat) (h : k ≤ ds.length) : (idsL ds k).length = k := by simp [idsL]; omega

theorem idsR_le (ds : List TxnD) : (idsR ds).length ≤ ds.length := by
  unfold idsR
  split <;> simp

theorem allF_first (ds : List TxnD) : ∀ k, (∀ j, j < k → (ds.getD j txnNo).F = 0) → k < ds.length → (ds.getD k txnNo).F ≠ 0 → allF ds = (ds.getD k txnNo).F := by
  induction ds with
  | nil => intro k _ h; simp at h
  | cons x r ih =>
    intro k h0 hk hne
    cases k with
    | zero => simp [List.getD] at hne ⊢; simp [allF, hne]
    | succ k =>
      have hx : x.F = 0 := by simpa [List.getD] using h0 0 (by omega)
      have := ih k (fun j hj => by simpa [List.getD] using h0 (j + 1) (by omega)) (by simpa using hk) (by simpa [List.getD] using hne)
      simp only [allF, hx, if_true]
      rw [this]
      simp [List.getD]

theorem allF_none (ds : List TxnD) (h : ∀ j, j < ds.length → (ds.getD j txnNo).F = 0) : allF ds = 0 := by
  induction ds with
  | nil => rfl
  | cons x r ih =>
    have hx : x.F = 0 := by simpa [List.getD] using h 0 (by simp)
    simp only [allF, hx, if_true]
    exact ih (fun j hj => by simpa [List.getD] using h (j + 1) (by simpa using hj))

theorem TxnsAt.box {w : World} {b off i : Nat} {z : TxnD} {aa : Option Addr} {cc : Nat} (h0 : w.cell? ⟨b, off + i * 4, none⟩ = some (.int .i64 z.id)) (h1 : w.cell? ⟨b, off + i * 4 + 1, none⟩ = some (.int .i64 z.session)) (h2 : w.cell? ⟨b, off + i * 4 + 2, none⟩ = some (.int .i64 z.seq))
    (h3 : w.cell? ⟨b, off + i * 4 + 3, none⟩ = some (.slice aa z.acts.length cc)) : Box4 w b (off + i * 4) (.int .i64 z.id) (.int .i64 z.session) (.int .i64 z.seq) (.slice aa z.acts.length cc) := ⟨h0, h1, h2, h3⟩

set_option maxHeartbeats 1000000 in
theorem l2Ids_any (v : Value) (ds : List TxnD) (w : World) (h : TxnsAt w v ds) (hl : ds.length ≤ 60) :
    Calls Tryz.prog 141 #[v] w fun e w' => ∃ b c, e = .returned (.slice b (ds.map TxnD.id).length c) ∧ w'.ownsRow w.heap.size 2 1 (.slice b (ds.map TxnD.id).length c) (ds.map TxnD.id).length ((ds.map TxnD.id).map (Value.int .i64)) ∧ Below w.heap.size w w' := by
  obtain ⟨a, cap, rfl⟩ := h.shape
  obtain ⟨i0, hi, hz0, hz1, hz2⟩ := info_parts infoI64
  go_enter Tryz.func141, Tryz.ntmps141
  go_wp2
  go_loopw [3, 4] (fun v j wr => ∃ k : Nat, k ≤ ds.length ∧ j = .int .i64 k ∧ wr.ownsRow w.heap.size 2 1 v (idsL ds k).length ((idsL ds k).map (Value.int .i64)) ∧ Below w.heap.size w wr) (fun _ j _ => ds.length - (intOf j).toNat)
  case atStart => exact ⟨0, Nat.zero_le _, rfl, by first | exact World.ownsRow_lit w #[] 0 (Nat.le_refl _) (by decide) rfl | (simp [idsL]; exact World.ownsRow_lit w #[] 0 (Nat.le_refl _) (by decide) rfl), by go_grown⟩
  case round =>
    obtain ⟨k, hk, rfl, ho, hb⟩ := hrel
    have hsz := hb.size
    have hkl : (idsL ds k).length ≤ 60 := by rw [idsL_length ds k hk]; omega
    obtain ⟨a1, c1, rfl⟩ := own_shape ho
    by_cases hlt : k < ds.length
    · have hsu : Hid (idsL ds (k + 1) = idsL ds k ++ [(ds.getD k txnNo).id]) := idsL_succ ds k hlt
      obtain ⟨b, off, aa, cc, rfl, hbs, hc0, _⟩ := (h.below hb).at k hlt
      generalize (ds.getD k txnNo).id = z at hc0 hsu
      have hW2 : Below w.heap.size wr (wr.alloc (.cells #[.int .i64 z] 2)) := (Below.refl _ _).alloc hsz _
      have ho2 := ho.alloc (.cells #[.int .i64 z] 2)
      go_wp2_with (at_builtin; refine wpList_append_own _ rfl _ _ 47 rfl w.heap.size 2 i0 (.int .i64 0) 1 8 Tryz.underlying47 hi hz0 hz1 hz2 rfl (by decide) _ (idsL ds k).length ((idsL ds k).map (Value.int .i64)) rfl ho2 ⟨wr.heap.size, 0, none⟩ 1 1 [.int .i64 z] rfl rfl ?c1 ?c2 ?c3 ?c4 ?c5 ?_)
      all_goals try
        (case c1 => intro j u hj; match j, hj with | 0, hj => simp at hj; subst hj; simp [Addr.add])
      all_goals try (case c2 => first | rfl | (intro u hu; simp at hu; subst hu; rfl))
      all_goals try (case c3 => unfold maxLen; omega)
      all_goals try (case c4 => omega)
      all_goals try (case c5 => first | omega | (simp; omega))
      intro v' w2 hown hgrow _
      obtain ⟨a2, c2, rfl⟩ := own_shape hown
      have hW3 : Below w.heap.size wr w2 := hW2.grown hgrow (by simp; omega) (fun j hj => (ho.lt j hj).1)
      clear hW2 hgrow ho2 ho
      have R : Hid (w2.ownsRow w.heap.size 2 1 (.slice a2 ((idsL ds k).length + 1) c2) ((idsL ds k).length + 1) ((idsL ds k ++ [z]).map (Value.int .i64)) ∧ Below w.heap.size w w2) := ⟨by simpa using hown, hb.trans hW3⟩
      clear hown hW3
      go_wp2
      go_roundw
      case rel =>
        refine ⟨k + 1, by omega, by go_num, ?_, R.out.2⟩
        rw [hsu.out]
        simpa using R.out.1
      case measure => simp [intOf]; omega
    · have hkk : k = ds.length := by omega
      subst hkk
      have e : idsL ds ds.length = ds.map TxnD.id := by simp [idsL]
      rw [e] at ho
      clear hkl
      go_wp2
      go_ret
      rw [e]
      exact ⟨_, _, rfl, ho, hb⟩

end Go.Proofs.YtdcjefgafckmgaaGreatDoor
namespace Go.Proofs.YtdcjefgafckmgaaGreatDoor
open Go.RowKit
open Go.BigFrame
set_option linter.unusedVariables false
set_option maxRecDepth 100000
set_option linter.unusedSimpArgs false
set_option maxRecDepth 100000 in
set_option maxHeartbeats 2000000 in
theorem implIdsOf_any (v : Value) (ds : List TxnD) (w : World) (h : TxnsAt w v ds) (hl : ds.length + sumA ds ≤ 1048576) :
    Calls Tryz.prog 170 #[v] w fun e w' => ∃ b c, e = .returned (.agg #[.int .i64 (idsC ds), .slice b (idsR ds).length c]) ∧
      w'.ownsRow w.heap.size 2 1 (.slice b (idsR ds).length c) (idsR ds).length ((idsR ds).map (Value.int .i64)) ∧ Below w.heap.size w w' := by
  obtain ⟨a, cap, rfl⟩ := h.shape
  by_cases h60 : 60 < ds.length
  · have e1 : idsC ds = 2 := if_pos h60
    have e2 : idsR ds = [] := if_neg (by rw [e1]; decide)
    rw [e1, e2]
    clear e1 e2
    go_enter Tryz.func170, Tryz.ntmps170
    go_wp2
    exact bodyPost_ret (v := .agg #[.int .i64 2, .slice none 0 0]) (by simp [results, Tryz.results170, go_sem]) rfl ⟨_, _, rfl, World.ownsRow_nil _ _ _ _, by go_grown⟩
  · have e1 : idsC ds = allF ds := if_neg h60
    have hR0 : Box2 (w.alloc (.cells #[.int .i64 0, .slice none 0 0] 194)) w.heap.size (.int .i64 0) (.slice none 0 0) := ⟨by simp, by simp, by simp, by simp, by simp⟩
    have hb0 : Below w.heap.size w (w.alloc (.cells #[.int .i64 0, .slice none 0 0] 194)) := by go_grown
    obtain ⟨i0, hi, hz0, hz1, hz2⟩ := info_parts infoI64
    go_enter Tryz.func170, Tryz.ntmps170
    go_wp2
    generalize w.alloc (.cells #[.int .i64 0, .slice none 0 0] 194) = W at hR0 hb0
    have hsW := hR0.lt
    go_loopw [3, 13] (fun v j wr => ∃ k : Nat, k ≤ ds.length ∧ j = .int .i64 k ∧ wr.ownsRow W.heap.size 2 1 v (idsL ds k).length ((idsL ds k).map (Value.int .i64)) ∧ Below W.heap.size W wr ∧ Hid (∀ j, j < k → (ds.getD j txnNo).F = 0)) (fun _ j _ => ds.length - (intOf j).toNat)
    case atStart => exact ⟨0, Nat.zero_le _, rfl, World.ownsRow_nil _ _ _ _, Below.refl _ _, fun j hj => absurd hj (Nat.not_lt_zero _)⟩
    case round =>
      obtain ⟨k, hk, rfl, ho, hb, HA⟩ := hrel
      have hsz := hb.size
      have hkl : (idsL ds k).length ≤ 60 := by rw [idsL_length ds k hk]; omega
      obtain ⟨a1, c1, rfl⟩ := own_shape ho
      by_cases hlt : k < ds.length
      · obtain ⟨b, off, aa, cc, rfl, hbs, hc0, hc1, hc2, hc3, hA⟩ := (h.below (below_from hb0 hb)).at k hlt
        have hzl : (ds.getD k txnNo).acts.length ≤ sumA ds := mem_le_sumA (by simp [List.getD, hlt])
        have hcall := fun w h => txnFault_any (ds.getD k txnNo).id (ds.getD k txnNo).session (ds.getD k txnNo).seq aa cc (ds.getD k txnNo).acts w h (by omega)
        change ∀ w h, Calls _ _ _ _ fun e w' => e = .returned (.int .i64 ((ds.getD k txnNo).F)) ∧ _ at hcall
        by_cases hF : (ds.getD k txnNo).F = 0
        · have HB : Hid (∀ j, j < k + 1 → (ds.getD j txnNo).F = 0) := by
            intro j hj
            by_cases hjk : j = k
            · subst hjk; exact hF
            · exact HA.out j (by omega)
          have hsu : Hid (idsL ds (k + 1) = idsL ds k ++ [(ds.getD k txnNo).id]) := idsL_succ ds k hlt
          rw [hF] at hcall
          clear HA hF
          generalize ds.getD k txnNo = z at hc0 hc1 hc2 hc3 hA hcall hsu hzl
          obtain ⟨z0, z1, z2, zs⟩ := z
          dsimp only at hc0 hc1 hc2 hc3 hA hcall hzl
          have hW1 : Below wr.heap.size wr (wr.alloc (.cells #[.int .i64 z0, .int .i64 z1, .int .i64 z2, .slice aa zs.length cc] 44)) := by go_grown
          have hBt := Blk.new wr 44 #[.int .i64 z0, .int .i64 z1, .int .i64 z2, .slice aa zs.length cc]
          go_wp2_with fail
          generalize wr.alloc (.cells #[.int .i64 z0, .int .i64 z1, .int .i64 z2, .slice aa zs.length cc] 44) = w1 at hW1 hBt
          refine (hcall _ (hA.below hW1)).mono ?_
          rintro e w2 ⟨rfl, hb2⟩
          replace hW1 := hW1.trans (hb2.mono hW1.size)
          have p0 := (hBt.below hb2).cell 0 _ rfl
          have ho1 := own_below ho hW1
          have hs2 := hW1.size
          clear hb2 hBt hcall hA hc0 hc1 hc2 hc3
          have hW2 : Below W.heap.size w2 (w2.alloc (.cells #[.int .i64 z0] 2)) := (Below.refl _ _).alloc (by omega) _
          have ho2 := ho1.alloc (.cells #[.int .i64 z0] 2)
          go_wp2_with (at_builtin; refine wpList_append_own _ rfl _ _ 47 rfl W.heap.size 2 i0 (.int .i64 0) 1 8 Tryz.underlying47 hi hz0 hz1 hz2 rfl (by decide) _ (idsL ds k).length ((idsL ds k).map (Value.int .i64)) rfl ho2 ⟨w2.heap.size, 0, none⟩ 1 1 [.int .i64 z0] rfl rfl ?c1 ?c2 ?c3 ?c4 ?c5 ?_)
          all_goals try
            (case c1 => intro j u hj; match j, hj with | 0, hj => simp at hj; subst hj; simp [Addr.add])
          all_goals try (case c2 => first | rfl | (intro u hu; simp at hu; subst hu; rfl))
          all_goals try (case c3 => unfold maxLen; omega)
          all_goals try (case c4 => omega)
          all_goals try (case c5 => first | omega | (simp; omega))
          intro v' w3 hown hgrow _
          obtain ⟨a2, c2, rfl⟩ := own_shape hown
          have hW3 : Below W.heap.size w2 w3 := hW2.grown hgrow (by simp; omega) (fun j hj => (ho1.lt j hj).1)
          have R : Hid (w3.ownsRow W.heap.size 2 1 (.slice a2 ((idsL ds k).length + 1) c2) ((idsL ds k).length + 1) ((idsL ds k ++ [z0]).map (Value.int .i64)) ∧ Below W.heap.size W w3) := ⟨by simpa using hown, (hb.trans (hW1.mono hsz)).trans hW3⟩
          clear hW2 hgrow ho2 ho hown hW3 ho1 hW1 p0
          go_wp2
          go_roundw
          case rel =>
            refine ⟨k + 1, by omega, by go_num, ?_, R.out.2, HB⟩
            rw [hsu.out]
            simpa using R.out.1
          case measure => simp [intOf]; omega
        · have E : Hid (allF ds = (ds.getD k txnNo).F) := allF_first ds k HA.out hlt hF
          have hne : ((ds.getD k txnNo).F != 0) = true := by simpa using hF
          have E2 : Hid (idsR ds = []) := if_neg (by rw [e1, E.out]; exact hF)
          clear HA hF
          generalize (ds.getD k txnNo).F = r at hcall E hne
          generalize ds.getD k txnNo = z at hc0 hc1 hc2 hc3 hA hcall hzl
          obtain ⟨z0, z1, z2, zs⟩ := z
          dsimp only at hc0 hc1 hc2 hc3 hA hcall hzl
          have hW1 : Below wr.heap.size wr (wr.alloc (.cells #[.int .i64 z0, .int .i64 z1, .int .i64 z2, .slice aa zs.length cc] 44)) := by go_grown
          have E1 : Hid (idsC ds = allF ds) := e1
          clear e1
          go_wp2_with fail
          generalize wr.alloc (.cells #[.int .i64 z0, .int .i64 z1, .int .i64 z2, .slice aa zs.length cc] 44) = w1 at hW1
          refine (hcall _ (hA.below hW1)).mono ?_
          rintro e w2 ⟨rfl, hb2⟩
          obtain ⟨hlt0, q0, q1, g0, g1⟩ := ((hR0.below hb).below hW1).below hb2
          clear hcall hA hc0 hc1 hc2 hc3 ho
          go_wp2
          refine bodyPost_ret (v := .agg #[.int .i64 r, .slice none 0 0]) (by simp [results, Tryz.results170, go_sem, q0, q1]) rfl ?_
          rw [E1.out, E.out, E2.out]
          refine ⟨_, _, rfl, World.ownsRow_nil _ _ _ _, ?_⟩
          repeat' (refine Below.setCell ?_ (by dsimp only; omega) _)
          exact below_from (below_from (below_from hb0 hb) hW1) hb2
      · have hkk : k = ds.length := by omega
        subst hkk
        have E : Hid (idsC ds = 0) := e1.trans (allF_none ds HA.out)
        have E2 : Hid (idsR ds = idsL ds ds.length) := by
          show _ = _
          rw [show idsR ds = ds.map TxnD.id from if_pos E.out]
          simp [idsL]
        clear HA e1
        obtain ⟨hlt0, q0, q1, g0, g1⟩ := hR0.below hb
        generalize idsL ds ds.length = L at ho E2 hkl
        go_wp2
        refine bodyPost_ret (v := .agg #[.int .i64 0, .slice a1 L.length c1]) (by simp [results, Tryz.results170, go_sem, q0, q1]) rfl ?_
        rw [E.out, E2.out]
        refine ⟨_, _, rfl, ?_, ?_⟩
        · refine own_base (base := W.heap.size) ?_ hb0.size
          repeat' (refine ownsRow_setCell_below ?_ (by dsimp only; omega) _)
          exact ho
        · repeat' (refine Below.setCell ?_ (by dsimp only; omega) _)
          exact below_from hb0 hb

end Go.Proofs.YtdcjefgafckmgaaGreatDoor
namespace Go.Proofs.YtdcjefgafckmgaaGreatDoor
open Go.RowKit
open Go.BigFrame
set_option linter.unusedVariables false
set_option maxRecDepth 100000
set_option linter.unusedSimpArgs false
/-- The first place of x, or the length. -/
def idxN : List Int → Int → Nat
  | [], _ => 0
  | y :: r, x => if y = x then 0 else idxN r x + 1

theorem idxN_at (L : List Int) (x : Int) : ∀ k, (∀ j, j < k → L.getD j 0 ≠ x) → k < L.length → L.getD k 0 = x → idxN L x = k := by
  induction L with
  | nil => intro k _ h; simp at h
  | cons y r ih =>
    intro k h0 hk he
    cases k with
    | zero => simp [List.getD] at he; simp [idxN, he]
    | succ k =>
      have hy : y ≠ x := by simpa [List.getD] using h0 0 (by omega)
      simp only [idxN, hy, if_false]
      rw [ih k (fun j hj => by simpa [List.getD] using h0 (j + 1) (by omega)) (by simpa using hk) (by simpa [List.getD] using he)]

theorem idxN_none (L : List Int) (x : Int) (h : ∀ j, j < L.length → L.getD j 0 ≠ x) : idxN L x = L.length := by
  induction L with
  | nil => rfl
  | cons y r ih =>
    have hy : y ≠ x := by simpa [List.getD] using h 0 (by simp)
    simp only [idxN, hy, if_false, List.length_cons]
    rw [ih (fun j hj => by simpa [List.getD] using h (j + 1) (by simpa using hj))]

def idxI (L : List Int) (x : Int) : Int := if idxN L x < L.length then (idxN L x : Int) else -1

set_option maxRecDepth 100000 in
set_option maxHeartbeats 1000000 in
theorem l1Find_any (a : Option Addr) (cap : Nat) (L : List Int) (x : Int) (w : World) (h : Row .i64 w a L) (hl : L.length ≤ 1048576) :
    Calls Tryz.prog 140 #[.slice a L.length cap, .int .i64 x] w fun e w' => e = .returned (.int .i64 (idxI L x)) ∧ w' = w := by
  go_enter Tryz.func140, Tryz.ntmps140
  go_wp2
  go_loop [5] (fun j => ∃ k : Nat, k ≤ L.length ∧ j = .int .i64 k ∧ Hid (∀ j, j < k → L.getD j 0 ≠ x)) (fun j => L.length - (intOf j).toNat)
  case atStart => exact ⟨0, Nat.zero_le _, rfl, fun j hj => absurd hj (Nat.not_lt_zero _)⟩
  case round =>
    obtain ⟨k, hk, rfl, HA⟩ := hrel
    by_cases hlt : k < L.length
    · obtain ⟨b, off, rfl, hbs, hc⟩ := h k hlt
      by_cases he : L.getD k 0 = x
      · have E : Hid (idxI L x = (k : Int)) := by
          show _ = _
          rw [idxI, idxN_at L x k HA.out hlt he, if_pos hlt]
        have hee : (L.getD k 0 == x) = true := by simpa using he
        clear HA he
        generalize L.getD k 0 = z at hc hee
        go_wp2
        go_ret
        rw [E.out]
        exact ⟨rfl, rfl⟩
      · have HB : Hid (∀ j, j < k + 1 → L.getD j 0 ≠ x) := by
          intro j hj
          by_cases hjk : j = k
          · subst hjk; exact he
          · exact HA.out j (by omega)
        have hee : (L.getD k 0 == x) = false := by simpa using he
        clear HA he
        generalize L.getD k 0 = z at hc hee
        go_wp2
        go_round
        case rel => exact ⟨k + 1, by omega, by go_num, HB⟩
        case measure => simp [intOf]; omega
    · have hkl : k = L.length := by omega
      subst hkl
      have E : Hid (idxI L x = -1) := by
        show _ = _
        rw [idxI, idxN_none L x HA.out, if_neg (Nat.lt_irrefl _)]
      clear HA
      go_wp2
      go_ret
      rw [E.out]
      exact ⟨rfl, rfl⟩

theorem acts_oneCell (zs : List ActD) : ∀ u ∈ actCells zs, u.oneCell' = true := by
  intro u hu
  simp only [actCells, List.mem_flatMap, ActD.cells, List.mem_cons, List.not_mem_nil, or_false] at hu
  obtain ⟨z, _, rfl | rfl | rfl⟩ := hu <;> rfl

theorem lies_src {w : World} {b off : Nat} {xs : List Value} (h : Lies w (some ⟨b, off, none⟩) xs) : ∀ j u, xs[j]? = some u → w.cell? ((⟨b, off, none⟩ : Addr).add j) = some u := by
  intro j u hj
  rcases h with rfl | ⟨b', off', e, _, hc⟩
  · simp at hj
  · simp only [Option.some.injEq, Addr.mk.injEq, and_true] at e
    obtain ⟨rfl, rfl⟩ := e
    rw [Addr.add_lit]
    exact hc j u hj

set_option maxRecDepth 100000 in
set_option maxHeartbeats 1000000 in
theorem l2Copy_any (i s q : Int) (b off cap : Nat) (zs : List ActD) (w : World) (h : ActRow w (some ⟨b, off, none⟩) zs) (h0 : 0 < zs.length) (hl : zs.length ≤ 1048576) :
    Calls Tryz.prog 81 #[.agg #[.int .i64 i, .int .i64 s, .int .i64 q, .slice (some ⟨b, off, none⟩) zs.length cap]] w fun e w' => ∃ a c, e = .returned (.agg #[.int .i64 i, .int .i64 s, .int .i64 q, .slice a zs.length c]) ∧
      w'.ownsRow w.heap.size 129 3 (.slice a zs.length c) zs.length (actCells zs) ∧ Below w.heap.size w w' := by
  obtain ⟨i0, hi, hz0, hz1, hz2⟩ := info_parts infoAct
  have hs := lies_src (Lies.below h (w' := ((w.alloc (.cells #[.int .i64 i, .int .i64 s, .int .i64 q, .slice (some ⟨b, off, none⟩) zs.length cap] 44)).alloc (.cells #[.int .i64 0, .int .i64 0, .int .i64 0, .slice none 0 0] 44)).alloc (.cells #[] 129)) (by go_grown))
  have hcl := actCells_length zs
  have ho := World.ownsRow_lit (e := 129) (size := 3) ((w.alloc (.cells #[.int .i64 i, .int .i64 s, .int .i64 q, .slice (some ⟨b, off, none⟩) zs.length cap] 44)).alloc (.cells #[.int .i64 0, .int .i64 0, .int .i64 0, .slice none 0 0] 44)) #[] 0 (Nat.le_refl _) (by decide) rfl
  have hb1 : Below w.heap.size w (((w.alloc (.cells #[.int .i64 i, .int .i64 s, .int .i64 q, .slice (some ⟨b, off, none⟩) zs.length cap] 44)).alloc (.cells #[.int .i64 0, .int .i64 0, .int .i64 0, .slice none 0 0] 44)).alloc (.cells #[] 129)) := by go_grown
  have B1 := (Blk.new w 44 #[.int .i64 i, .int .i64 s, .int .i64 q, .slice (some ⟨b, off, none⟩) zs.length cap]).below (w' := ((w.alloc (.cells #[.int .i64 i, .int .i64 s, .int .i64 q, .slice (some ⟨b, off, none⟩) zs.length cap] 44)).alloc (.cells #[.int .i64 0, .int .i64 0, .int .i64 0, .slice none 0 0] 44)).alloc (.cells #[] 129)) (by go_grown)
  have B2 := (Blk.new (w.alloc (.cells #[.int .i64 i, .int .i64 s, .int .i64 q, .slice (some ⟨b, off, none⟩) zs.length cap] 44)) 44 #[.int .i64 0, .int .i64 0, .int .i64 0, .slice none 0 0]).below (w' := ((w.alloc (.cells #[.int .i64 i, .int .i64 s, .int .i64 q, .slice (some ⟨b, off, none⟩) zs.length cap] 44)).alloc (.cells #[.int .i64 0, .int .i64 0, .int .i64 0, .slice none 0 0] 44)).alloc (.cells #[] 129)) (by go_grown)
  have HS : Hid (∀ j u, (actCells zs)[j]? = some u → _) := hs
  clear hs
  simp only [World.size_alloc] at B2 ho
  go_enter Tryz.func81, Tryz.ntmps81
  go_wp2_with (at_builtin; refine wpList_append_own _ rfl _ _ 42 rfl (w.heap.size + 1 + 1) 129 i0 (.agg #[.int .i64 0, .int .i64 0, .int .i64 0]) 3 24 Tryz.underlying42 hi hz0 hz1 hz2 rfl (by decide) _ 0 [] rfl ho ⟨b, off, none⟩ zs.length cap (actCells zs) rfl hcl HS.out ?c2 ?c3 ?c4 ?c5 ?_)
  all_goals try (case c2 => exact acts_oneCell zs)
  all_goals try (case c3 => unfold maxLen; omega)
  all_goals try (case c4 => omega)
  all_goals try (case c5 => simp)
  intro v' w2 hown hgrow _
  obtain ⟨a2, c2, rfl⟩ := own_shape hown
  replace B1 := B1.grown hgrow (by simp [Value.ownBlock] <;> omega)
  replace B2 := B2.grown hgrow (by simp [Value.ownBlock] <;> omega)
  have hb2 : Below w.heap.size w w2 := hb1.grown hgrow (by simp; omega) (fun k hk => by simp [Value.ownBlock] at hk; omega)
  have hlt2 := B2.lt
  have p0 := B1.cell 0 _ rfl
  have p1 := B1.cell 1 _ rfl
  have p2 := B1.cell 2 _ rfl
  have p3 := B1.cell 3 _ rfl
  have pf := B1.frozen 3
  have q0 := B2.cell 0 _ rfl
  have q1 := B2.cell 1 _ rfl
  have q2 := B2.cell 2 _ rfl
  have q3 := B2.cell 3 _ rfl
  have f0 := B2.frozen 0
  have f1 := B2.frozen 1
  have f2 := B2.frozen 2
  have f3 := B2.frozen 3
  try simp only [Nat.zero_add] at hown
  clear B1 B2 hgrow HS ho hb1
  go_wp2
  refine bodyPost_ret (v := .agg #[.int .i64 i, .int .i64 s, .int .i64 q, .slice a2 zs.length c2]) (by simp [results, Tryz.results81, go_sem, q0, q1, q2, q3]) rfl ⟨_, _, rfl, ?_, ?_⟩
  · refine own_base (base := w.heap.size + 1 + 1) ?_ (by omega)
    repeat' (refine ownsRow_setCell_below ?_ (by dsimp only; omega) _)
    simpa using hown
  · repeat' (refine Below.setCell ?_ (by dsimp only; omega) _)
    exact hb2

set_option maxRecDepth 100000 in
set_option maxHeartbeats 1000000 in
theorem clone_any (b off cap : Nat) (zs : List ActD) (w : World) (h : ActRow w (some ⟨b, off, none⟩) zs) (h0 : 0 < zs.length) (hl : zs.length ≤ 1048576) :
    Calls Tryz.prog 121 #[.slice (some ⟨b, off, none⟩) zs.length cap] w fun e w' => ∃ a c, e = .returned (.slice a zs.length c) ∧
      w'.ownsRow w.heap.size 129 3 (.slice a zs.length c) zs.length (actCells zs) ∧ Below w.heap.size w w' := by
  obtain ⟨i0, hi, hz0, hz1, hz2⟩ := info_parts infoAct
  have hs := lies_src (Lies.below h (w' := w.alloc (.cells #[] 129)) (by go_grown))
  have hcl := actCells_length zs
  have ho := World.ownsRow_lit (e := 129) (size := 3) w #[] 0 (Nat.le_refl _) (by decide) rfl
  have HS : Hid (∀ j u, (actCells zs)[j]? = some u → _) := hs
  clear hs
  have hnil : ∀ w, (binOp .eql 42 (.slice (some ⟨b, off, none⟩) zs.length cap) (.slice none 0 0)).run Tryz.prog w = .ok (.bool false) w := fun w => by first | rfl | kernel_rfl | (simp only [binOp]; simp [Op.equal, Op.maxDepth, Op.equalIn, run_underlying Tryz.underlying42])
  go_enter Tryz.func121, Tryz.ntmps121
  go_wp2_with (at_builtin; refine wpList_append_own _ rfl _ _ 42 rfl w.heap.size 129 i0 (.agg #[.int .i64 0, .int .i64 0, .int .i64 0]) 3 24 Tryz.underlying42 hi hz0 hz1 hz2 rfl (by decide) _ 0 [] rfl ho ⟨b, off, none⟩ zs.length cap (actCells zs) rfl hcl HS.out ?c2 ?c3 ?c4 ?c5 ?_)
  all_goals try (case c2 => exact acts_oneCell zs)
  all_goals try (case c3 => unfold maxLen; omega)
  all_goals try (case c4 => omega)
  all_goals try (case c5 => simp)
  intro v' w2 hown hgrow _
  obtain ⟨a2, c2, rfl⟩ := own_shape hown
  have hb2 : Below w.heap.size w w2 := ((Below.refl _ _).alloc (Nat.le_refl _) _).grown hgrow (by simp) (fun k hk => by simp [Value.ownBlock] at hk; omega)
  try simp only [Nat.zero_add] at hown
  clear hgrow HS ho
  go_wp2
  go_ret
  exact ⟨a2, c2, rfl, by simpa using hown, hb2⟩

set_option maxRecDepth 100000 in
set_option maxHeartbeats 1000000 in
theorem cloneTxn_any (i s q : Int) (b off cap : Nat) (zs : List ActD) (w : World) (h : ActRow w (some ⟨b, off, none⟩) zs) (h0 : 0 < zs.length) (hl : zs.length ≤ 1048576) :
    Calls Tryz.prog 76 #[.agg #[.int .i64 i, .int .i64 s, .int .i64 q, .slice (some ⟨b, off, none⟩) zs.length cap]] w fun e w' => ∃ a c, e = .returned (.agg #[.int .i64 i, .int .i64 s, .int .i64 q, .slice a zs.length c]) ∧
      w'.ownsRow w.heap.size 129 3 (.slice a zs.length c) zs.length (actCells zs) ∧ Below w.heap.size w w' := by
  have hb1 : Below w.heap.size w ((w.alloc (.cells #[.int .i64 i, .int .i64 s, .int .i64 q, .slice (some ⟨b, off, none⟩) zs.length cap] 44)).alloc (.cells #[.int .i64 0, .int .i64 0, .int .i64 0, .slice none 0 0] 44)) := by go_grown
  have B1 := (Blk.new w 44 #[.int .i64 i, .int .i64 s, .int .i64 q, .slice (some ⟨b, off, none⟩) zs.length cap]).below (w' := (w.alloc (.cells #[.int .i64 i, .int .i64 s, .int .i64 q, .slice (some ⟨b, off, none⟩) zs.length cap] 44)).alloc (.cells #[.int .i64 0, .int .i64 0, .int .i64 0, .slice none 0 0] 44)) (by go_grown)
  have B2 := Blk.new (w.alloc (.cells #[.int .i64 i, .int .i64 s, .int .i64 q, .slice (some ⟨b, off, none⟩) zs.length cap] 44)) 44 #[.int .i64 0, .int .i64 0, .int .i64 0, .slice none 0 0]
  simp only [World.size_alloc] at B2
  go_enter Tryz.func76, Tryz.ntmps76
  go_wp2_with fail
  generalize (w.alloc (.cells #[.int .i64 i, .int .i64 s, .int .i64 q, .slice (some ⟨b, off, none⟩) zs.length cap] 44)).alloc (.cells #[.int .i64 0, .int .i64 0, .int .i64 0, .slice none 0 0] 44) = W at hb1 B1 B2
  have hltW := B2.lt
  refine (clone_any b off cap zs W (h.below hb1) h0 hl).mono ?_
  rintro e w2 ⟨a2, c2, rfl, hown, hb⟩
  replace B1 := B1.below hb
  replace B2 := B2.below hb
  have p0 := B1.cell 0 _ rfl
  have p1 := B1.cell 1 _ rfl
  have p2 := B1.cell 2 _ rfl
  have p3 := B1.cell 3 _ rfl
  have pf := B1.frozen 3
  have q0 := B2.cell 0 _ rfl
  have q1 := B2.cell 1 _ rfl
  have q2 := B2.cell 2 _ rfl
  have q3 := B2.cell 3 _ rfl
  have f0 := B2.frozen 0
  have f1 := B2.frozen 1
  have f2 := B2.frozen 2
  have f3 := B2.frozen 3
  clear B1 B2
  go_wp2
  refine bodyPost_ret (v := .agg #[.int .i64 i, .int .i64 s, .int .i64 q, .slice a2 zs.length c2]) (by simp [results, Tryz.results76, go_sem, q0, q1, q2, q3]) rfl ⟨_, _, rfl, ?_, ?_⟩
  · refine own_base (base := W.heap.size) ?_ (by omega)
    repeat' (refine ownsRow_setCell_below ?_ (by dsimp only; omega) _)
    exact hown
  · repeat' (refine Below.setCell ?_ (by dsimp only; omega) _)
    exact below_from hb1 hb

end Go.Proofs.YtdcjefgafckmgaaGreatDoor
namespace Go.Proofs.YtdcjefgafckmgaaGreatDoor
open Go.RowKit
set_option linter.unusedVariables false
set_option maxRecDepth 100000
section
variable {P : Program} {ops : Array Oper} {Q : Exit → Act → World → Prop} {S : World → Prop}
theorem quiet_at (i : Nat) (d : Option Tmp) (v : Value) (fuel : Nat) {F : Nat} {l : Array Bool} {a : Act} {w : World} (hF : F = fuel + 1) (hs : Region.noSelect ops = true)
    (hd : (ops[i]?).map (·.dst) = some d) (hok : okSeg ops [i] l = true) (hw : (ops[i]?).map (fun o => Region.wanted o (yielded ops a.tmps)) = some true)
    (hrun : ∀ u, S u → (ops[i]?).map (fun o => (execOp a.eval o).run P u) = some (.ok (.value v) u)) (hS : S w)
    (h : wpAnyH P .any ops (NoPanic Q) S fuel (upTo [i] l) (a.put d v) w) : wpAnyH P .any ops (NoPanic Q) S F l a w := by
  subst hF
  cases ho : ops[i]? with
  | none => rw [ho] at hd; simp at hd
  | some o =>
    rw [ho] at hd hw hrun
    simp only [Option.map_some, Option.some.injEq] at hd hw hrun
    subst hd
    simp only [okSeg, Bool.and_eq_true, Bool.and_true] at hok
    exact wpAnyH_take (i := i) (oi := o) (v := v) ho hs hok.1 hok.2 (fun c a w => noPanic_put c a _ _ w) (Or.inl ⟨hw, fun u hu => hrun u hu⟩) hS h

/-- One operation, walked as a list of one. -/
theorem op_one {K : Act → World → Prop} (i : Nat) (o : Oper) {a : Act} {w : World} (ho : ops[i]? = some o) (h : wpList P ops (ThenGo Q K) [o] a w) : wpOp P ops (NoPanic Q) i K a w := by
  unfold wpOp
  simp only [ho]
  simp only [wpList] at h
  split at h
  · rename_i hw
    rw [if_pos hw]
    rcases h with h | ⟨h1, h2⟩
    · left
      unfold Oper.wp at h ⊢
      revert h
      generalize (execOp a.eval o).run P w = r
      intro h
      unfold Oper.upon at h ⊢
      split at h
      · exact h
      · exact h
      · exact h
      · refine Calls.mono h fun e w' he => ?_
        cases e <;> exact he
      · exact h
      · exact h
      · exact h
    · exact Or.inr ⟨h1, h2⟩
  · rename_i hw
    rw [if_neg hw]
    exact h

/-- One call, by its contract. -/
theorem op_call {K : Act → World → Prop} (i : Nat) (d : Option Tmp) (f : Nat) (args : Array Value) {a : Act} {w : World}
    (hd : (ops[i]?).map (·.dst) = some d) (hw : (ops[i]?).map (fun o => Region.wanted o (yielded ops a.tmps)) = some true)
    (hrun : (ops[i]?).map (fun o => (execOp a.eval o).run P w) = some (.ok (.enter f args) w))
    (hc : Calls P f args w (fun e w' => ∃ v, e = .returned v ∧ K (a.put d v) w')) : wpOp P ops (NoPanic Q) i K a w := by
  cases ho : ops[i]? with
  | none => rw [ho] at hd; simp at hd
  | some o =>
    rw [ho] at hd hw hrun
    simp only [Option.map_some, Option.some.injEq] at hd hw hrun
    subst hd
    unfold wpOp
    simp only [ho, hw, if_true]
    refine .inl ?_
    unfold Oper.wp
    rw [hrun]
    simp only [Oper.upon]
    refine hc.mono fun e w' he => ?_
    obtain ⟨v, rfl, h1⟩ := he
    exact h1

/-- Two may come up: each of them first. -/
theorem two_at (i j : Nat) (fuel : Nat) {F : Nat} {l : Array Bool} {a : Act} {w : World} (hF : F = fuel + 1) (hr : Region.ready .any ops l = [i, j])
    (hi : wpOp P ops (NoPanic Q) i (fun a' w' => S w' ∧ wpAnyH P .any ops (NoPanic Q) S fuel (upTo [i] l) a' w') a w)
    (hj : wpOp P ops (NoPanic Q) j (fun a' w' => S w' ∧ wpAnyH P .any ops (NoPanic Q) S fuel (upTo [j] l) a' w') a w) : wpAnyH P .any ops (NoPanic Q) S F l a w := by
  subst hF
  refine wpAnyH_all hr (by simp) (fun k hk => ?_)
  simp only [List.mem_cons, List.not_mem_nil, or_false] at hk
  rcases hk with rfl | rfl
  · exact hi
  · exact hj

end
end Go.Proofs.YtdcjefgafckmgaaGreatDoor
namespace Go.Proofs.YtdcjefgafckmgaaGreatDoor
open Go.RowKit
set_option linter.unusedVariables false
set_option maxRecDepth 100000
set_option linter.unusedSimpArgs false
/-- The fault of a batch. -/
def batF (ds : List TxnD) : Int := if ds.length < 1 ∨ 4 < ds.length then 2 else if allF ds = 0 then (if (ds.map TxnD.id).Nodup then 0 else 6) else allF ds

/-- The fault of the rounds, one by one. -/
def rndsF : List RoundE → Int
  | [] => 0
  | r :: rs => if vf r.rep 1 = 0 then (if vf r.pro 2 = 0 then rndsF rs else vf r.pro 2) else vf r.rep 1

/-- The fault of the form. -/
def shpF (x : InstE) : Int :=
  if x.has = false ∧ 0 < x.batch.length then 1 else
  if x.has = true ∧ batF x.batch ≠ 0 then batF x.batch else
  if x.rounds.length < 1 ∨ 4 < x.rounds.length then 2 else
  if rndsF x.rounds = 0 then vf x.dec 1 else rndsF x.rounds

def rnd0 : RoundE := ⟨[], []⟩

def repA (rs : List RoundE) (r n : Nat) : Int := (rs.getD r rnd0).rep.getD n 0

def proA (rs : List RoundE) (r n : Nat) : Int := (rs.getD r rnd0).pro.getD n 0

/-- May it have proposed so? -/
def proR (rs : List RoundE) (r n : Nat) : Bool := (proA rs r n == 3) || ((repA rs r n != 3) && mayP (rs.getD r rnd0).rep (proA rs r n))

/-- May it have reported so (behind the first round)? -/
def befR (rs : List RoundE) (r n : Nat) : Bool := (proA rs (r - 1) n != 3) && mayR (rs.getD (r - 1) rnd0).pro (repA rs r n)

/-- The program's way. -/
def repI (has : Bool) (rs : List RoundE) (r n : Nat) : Bool := if repA rs r n = 1 ∧ has = false then false else if repA rs r n = 3 ∨ r = 0 then true else befR rs r n

/-- The model's way. -/
def sayM (has : Bool) (rs : List RoundE) (r n : Nat) : Bool := proR rs r n && (if r = 0 ∨ repA rs r n = 3 then true else befR rs r n && (has || (repA rs r n == 0) || decide (0 < cnt 7 (rs.getD (r - 1) rnd0).pro 1)))

/-- A quorum proposed v. -/
def agr (rs : List RoundE) (v : Int) : Bool := rs.any (fun r => decide (2 ≤ cnt 7 r.pro v))

def endR (rs : List RoundE) (v : Int) : Bool := (v == 3) || agr rs v

def allI (has : Bool) (rs : List RoundE) (r : Nat) : Bool := (repI has rs r 0 && proR rs r 0) && (repI has rs r 1 && proR rs r 1) && (repI has rs r 2 && proR rs r 2)

def allM (has : Bool) (rs : List RoundE) (r : Nat) : Bool := sayM has rs r 0 && sayM has rs r 1 && sayM has rs r 2

def endA (rs : List RoundE) (dec : List Int) : Bool := endR rs (dec.getD 0 0) && endR rs (dec.getD 1 0) && endR rs (dec.getD 2 0)

def rgtI (x : InstE) : Bool := (List.range x.rounds.length).all (allI x.has x.rounds) && endA x.rounds x.dec

def rgtM (x : InstE) : Bool := (x.has || !decide (0 < cnt 7 (x.rounds.getD 0 rnd0).rep 1)) && (List.range x.rounds.length).all (allM x.has x.rounds) && endA x.rounds x.dec

/-- The fault of an instance. -/
def insF (x : InstE) : Int := if shpF x = 0 then (if rgtI x then 0 else 10) else shpF x

theorem cnt7 (zs : List Int) (v : Int) : cnt 7 zs v = sum3 (zs.getD 0 0 == v) (zs.getD 1 0 == v) (zs.getD 2 0 == v) := by
  unfold cnt
  rw [bit7.1, bit7.2.1, bit7.2.2]
  simp only [Bool.true_and]

theorem pop_vot3 (p q r : Bool) : pop3 (vot3 p q r) = sum3 p q r := by cases p <;> cases q <;> cases r <;> decide +kernel

theorem pop_vot (zs : List Int) (v : Int) : pop3 (vot zs v) = cnt 7 zs v := by
  rw [cnt7]
  exact pop_vot3 _ _ _

theorem sum3_pos (p q r : Bool) : (0 < sum3 p q r) ↔ (p = true ∨ q = true ∨ r = true) := by cases p <;> cases q <;> cases r <;> decide

theorem cnt7_pos (zs : List Int) (v : Int) : (0 < cnt 7 zs v) ↔ ∃ n, n < 3 ∧ zs.getD n 0 = v := by
  rw [cnt7, sum3_pos]
  simp only [beq_iff_eq]
  constructor
  · rintro (h | h | h)
    · exact ⟨0, by omega, h⟩
    · exact ⟨1, by omega, h⟩
    · exact ⟨2, by omega, h⟩
  · rintro ⟨n, hn, h⟩
    have : n = 0 ∨ n = 1 ∨ n = 2 := by omega
    rcases this with rfl | rfl | rfl
    · exact Or.inl h
    · exact Or.inr (Or.inl h)
    · exact Or.inr (Or.inr h)

theorem has_one4 : ∀ x ∈ v4, ∀ y ∈ v4, ∀ z ∈ v4, mayP [x, y, z] 1 = true → x = 1 ∨ y = 1 ∨ z = 1 := by decide +kernel

/-- Where 1 may be proposed somebody reported 1. -/
theorem mayP_has1 {zs : List Int} (h : mayP zs 1 = true) : ∃ n, n < 3 ∧ zs.getD n 0 = 1 := by
  by_cases h0 : vf zs 1 = 0
  · obtain ⟨x, hx, y, hy, z, hz, rfl⟩ := vf_three (Or.inl rfl) h0
    rcases has_one4 x hx y hy z hz h with h | h | h
    · exact ⟨0, by omega, h⟩
    · exact ⟨1, by omega, h⟩
    · exact ⟨2, by omega, h⟩
  · have : mayP zs 1 = false := any_none _ (fun k => by
      have hc : (pfC zs k == 0) = false := by
        rw [beq_eq_false_iff_ne]
        intro e
        exact h0 (pf_zero e).1
      simp only [pB, hc, Bool.false_and]) 8
    rw [this] at h
    exact absurd h (by decide)

theorem rndsF_at {rs : List RoundE} (h : rndsF rs = 0) (r : Nat) (hr : r < rs.length) : vf (rs.getD r rnd0).rep 1 = 0 ∧ vf (rs.getD r rnd0).pro 2 = 0 := by
  induction rs generalizing r with
  | nil => simp at hr
  | cons q t ih =>
    unfold rndsF at h
    by_cases h1 : vf q.rep 1 = 0
    · rw [if_pos h1] at h
      by_cases h2 : vf q.pro 2 = 0
      · rw [if_pos h2] at h
        cases r with
        | zero => exact ⟨h1, h2⟩
        | succ r => exact ih h r (by simpa using hr)
      · rw [if_neg h2] at h
        exact absurd h h2
    · rw [if_neg h1] at h
      exact absurd h h1

theorem vf_vote {zs : List Int} {most : Int} (h : vf zs most = 0) (n : Nat) (hn : n < 3) : vOk most (zs.getD n 0) = true := by
  have hl := vf_len h
  unfold vf at h
  rw [if_pos hl] at h
  have ha : zs.all (vOk most) = true := by
    by_cases hx : zs.all (vOk most) = true
    · exact hx
    · rw [if_neg hx] at h
      simp at h
  have hg : zs.getD n 0 = zs[n] := by simp [List.getD, show n < zs.length by omega]
  rw [hg]
  exact List.all_eq_true.1 ha _ (List.getElem_mem _)

theorem vOk1 {x : Int} (h : vOk 1 x = true) : x = 0 ∨ x = 1 ∨ x = 3 := by
  unfold vOk inB at h
  rw [Bool.or_eq_true, decide_eq_true_eq, beq_iff_eq] at h
  omega

theorem allI_iff (has : Bool) (rs : List RoundE) (r : Nat) : allI has rs r = true ↔ ∀ n, n < 3 → repI has rs r n = true ∧ proR rs r n = true := by
  unfold allI
  simp only [Bool.and_eq_true]
  constructor
  · rintro ⟨⟨h0, h1⟩, h2⟩ n hn
    have : n = 0 ∨ n = 1 ∨ n = 2 := by omega
    rcases this with rfl | rfl | rfl
    · exact h0
    · exact h1
    · exact h2
  · intro h
    exact ⟨⟨h 0 (by omega), h 1 (by omega)⟩, h 2 (by omega)⟩

theorem allM_iff (has : Bool) (rs : List RoundE) (r : Nat) : allM has rs r = true ↔ ∀ n, n < 3 → sayM has rs r n = true := by
  unfold allM
  simp only [Bool.and_eq_true]
  constructor
  · rintro ⟨⟨h0, h1⟩, h2⟩ n hn
    have : n = 0 ∨ n = 1 ∨ n = 2 := by omega
    rcases this with rfl | rfl | rfl
    · exact h0
    · exact h1
    · exact h2
  · intro h
    exact ⟨⟨h 0 (by omega), h 1 (by omega)⟩, h 2 (by omega)⟩

/-- Without a batch nobody reported 1. -/
theorem no_one {rs : List RoundE} (h0 : ¬ 0 < cnt 7 (rs.getD 0 rnd0).rep 1) (hM : ∀ r, r < rs.length → ∀ n, n < 3 → sayM false rs r n = true) : ∀ r, r < rs.length → ∀ n, n < 3 → repA rs r n ≠ 1 := by
  intro r
  induction r with
  | zero =>
    intro _ n hn e
    exact h0 ((cnt7_pos _ _).2 ⟨n, hn, e⟩)
  | succ r ih =>
    intro hr n hn e
    have h := hM (r + 1) hr n hn
    unfold sayM at h
    rw [Bool.and_eq_true] at h
    have h2 := h.2
    rw [if_neg (by rw [e]; omega), Bool.and_eq_true] at h2
    have h3 := h2.2
    rw [e] at h3
    simp only [Bool.false_or, Nat.add_sub_cancel] at h3
    have h4 : 0 < cnt 7 (rs.getD r rnd0).pro 1 := by simpa using h3
    obtain ⟨m, hm, hp⟩ := (cnt7_pos _ _).1 h4
    have h5 := hM r (by omega) m hm
    unfold sayM at h5
    rw [Bool.and_eq_true] at h5
    have h6 := h5.1
    unfold proR at h6
    have hp' : proA rs r m = 1 := hp
    rw [hp'] at h6
    simp only [Bool.or_eq_true, Bool.and_eq_true] at h6
    rcases h6 with h6 | h6
    · exact absurd h6 (by decide)
    · obtain ⟨k, hk, hk1⟩ := mayP_has1 h6.2
      exact ih (by omega) k hk hk1

/-- Both ways tell the same. -/
theorem rgt_same {x : InstE} (hr : rndsF x.rounds = 0) (hl : 0 < x.rounds.length) : rgtM x = rgtI x := by
  unfold rgtM rgtI
  rw [Bool.eq_iff_iff]
  simp only [Bool.and_eq_true, List.all_eq_true, List.mem_range, allI_iff, allM_iff]
  cases hh : x.has with
  | true =>
    simp only [Bool.true_or, true_and]
    refine and_congr_left (fun _ => ?_)
    refine forall_congr' (fun r => forall_congr' (fun hr' => forall_congr' (fun n => forall_congr' (fun hn => ?_))))
    unfold sayM repI
    rw [if_neg (show ¬ (repA x.rounds r n = 1 ∧ true = false) by simp)]
    simp only [Bool.true_or, Bool.and_true, Bool.and_eq_true]
    by_cases hc : repA x.rounds r n = 3 ∨ r = 0
    · rw [if_pos hc, if_pos hc.symm]
      exact and_comm
    · rw [if_neg hc, if_neg (fun e => hc e.symm)]
      exact and_comm
  | false =>
    simp only [Bool.false_or]
    constructor
    · rintro ⟨⟨h0, hM⟩, hE⟩
      have h0' : ¬ 0 < cnt 7 (x.rounds.getD 0 rnd0).rep 1 := by simpa using h0
      have hno := no_one h0' hM
      refine ⟨fun r hr' n hn => ?_, hE⟩
      have h := hM r hr' n hn
      unfold sayM at h
      rw [Bool.and_eq_true] at h
      refine ⟨?_, h.1⟩
      unfold repI
      rw [if_neg (fun e => hno r hr' n hn e.1)]
      have h2 := h.2
      by_cases hc : repA x.rounds r n = 3 ∨ r = 0
      · rw [if_pos hc]
      · rw [if_neg hc]
        rw [if_neg (fun e => hc e.symm), Bool.and_eq_true] at h2
        exact h2.1
    · rintro ⟨hI, hE⟩
      have hno : ∀ r, r < x.rounds.length → ∀ n, n < 3 → repA x.rounds r n ≠ 1 := by
        intro r hr' n hn e
        have h := (hI r hr' n hn).1
        unfold repI at h
        rw [if_pos ⟨e, rfl⟩] at h
        exact absurd h (by decide)
      refine ⟨⟨?_, fun r hr' n hn => ?_⟩, hE⟩
      · have : ¬ 0 < cnt 7 (x.rounds.getD 0 rnd0).rep 1 := by
          intro h
          obtain ⟨n, hn, e⟩ := (cnt7_pos _ _).1 h
          exact hno 0 hl n hn e
        simpa using this
      · obtain ⟨h1, h2⟩ := hI r hr' n hn
        unfold sayM
        rw [Bool.and_eq_true]
        refine ⟨h2, ?_⟩
        unfold repI at h1
        rw [if_neg (fun e => hno r hr' n hn e.1)] at h1
        by_cases hc : repA x.rounds r n = 3 ∨ r = 0
        · rw [if_pos hc.symm]
        · rw [if_neg hc] at h1
          rw [if_neg (fun e => hc e.symm), Bool.and_eq_true]
          refine ⟨h1, ?_⟩
          have hv := vOk1 (vf_vote (rndsF_at hr r hr').1 n hn)
          have h0 : repA x.rounds r n = 0 := by
            rcases hv with h | h | h
            · exact h
            · exact absurd h (hno r hr' n hn)
            · exact absurd (Or.inl h) hc
          rw [h0]
          simp

end Go.Proofs.YtdcjefgafckmgaaGreatDoor

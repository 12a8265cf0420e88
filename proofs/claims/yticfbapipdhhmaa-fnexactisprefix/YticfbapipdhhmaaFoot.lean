/- Memory by footprints: which blocks a value owns, how what is read or owned lasts, and lists of whatever elements. No condition. -/
import Derived.Test.YticfbapipdhhmaaD2
namespace Go.Proofs.Yticfbapipdhhmaa
open Go.RowKit
set_option linter.unusedVariables false
set_option linter.unusedSimpArgs false

/-- Only the blocks of F turn. -/
structure Out (F : List Nat) (w w' : World) : Prop where
  os : w'.os = w.os
  tape : w'.tape = w.tape
  output : w'.output = w.output
  size : w.heap.size ≤ w'.heap.size
  block : ∀ k, k < w.heap.size → k ∉ F → w'.heap[k]? = w.heap[k]?
theorem Out.refl (F : List Nat) (w : World) : Out F w w := ⟨rfl, rfl, rfl, Nat.le_refl _, fun _ _ _ => rfl⟩
theorem Out.trans {F : List Nat} {a b c : World} (h : Out F a b) (k : Out F b c) : Out F a c :=
  ⟨k.os.trans h.os, k.tape.trans h.tape, k.output.trans h.output, Nat.le_trans h.size k.size, fun i hi hn => (k.block i (Nat.lt_of_lt_of_le hi h.size) hn).trans (h.block i hi hn)⟩
theorem Out.mono {F G : List Nat} {w w' : World} (h : Out F w w') (hF : ∀ k ∈ F, k ∈ G) : Out G w w' := ⟨h.os, h.tape, h.output, h.size, fun k hk hn => h.block k hk (fun e => hn (hF k e))⟩
theorem Out.of_below {F : List Nat} {w w' : World} (h : Below w.heap.size w w') : Out F w w' := ⟨h.os, h.tape, h.output, h.size, fun k hk _ => h.block k hk⟩
theorem Out.of_grown {w w' : World} {row : Option Nat} (h : w.grownBy w' row) : Out row.toList w w' := ⟨h.os, h.tape, h.output, h.size, fun k hk hn => h.block k hk (fun e => hn (by rw [← e]; simp))⟩
theorem Out.setCell (w : World) (g j : Nat) (u : Value) : Out [g] w (w.setCell ⟨g, j, none⟩ u) := ⟨rfl, rfl, rfl, by simp, fun k _ hn => Below.heap_setCell w _ _ k (by simpa using hn)⟩
theorem Out.keep {B : Nat} {F : List Nat} {a w w' : World} (h : Below B a w) (ho : Out F w w') (hB : B ≤ w.heap.size) (hF : ∀ k ∈ F, B ≤ k) : Below B a w' :=
  ⟨ho.os.trans h.os, ho.tape.trans h.tape, ho.output.trans h.output, Nat.le_trans h.size ho.size, fun k hk => (ho.block k (by omega) (fun e => by have := hF k e; omega)).trans (h.block k hk)⟩

/-- The block that a slice begins in. -/
def blk (v : Value) : List Nat := v.ownBlock.toList
theorem own_outs {w w' : World} {base e s n : Nat} {v : Value} {xs : List Value} {F : List Nat} (h : w.ownsRow base e s v n xs) (ho : Out F w w') (hd : ∀ k ∈ blk v, k ∉ F) : w'.ownsRow base e s v n xs := by
  refine ⟨h.1, ?_⟩
  rcases h.2 with h2 | ⟨g, cap, cur, hv, hg, hh, r⟩
  · exact Or.inl h2
  · refine Or.inr ⟨g, cap, cur, hv, hg, ?_, r⟩
    rw [ho.block g (Array.getElem?_eq_some_iff.1 hh).1 (hd g (by rw [hv]; simp [blk, Value.ownBlock]))]
    exact hh

/-- A kind of elements: their cells, when they are read and owned, and the blocks beneath them. -/
structure Kind (P : Type) where
  ty : Nat
  size : Nat
  cells : P → List Value
  own : World → P → Prop
  rd : World → P → Prop
  foot : P → List Nat
  len : ∀ p, (cells p).length = size
  own_rd : ∀ {w p}, own w p → rd w p
  own_out : ∀ {w w' p F}, own w p → Out F w w' → (∀ k ∈ foot p, k ∉ F) → own w' p
  own_lt : ∀ {w p}, own w p → ∀ k ∈ foot p, k < w.heap.size
  rd_below : ∀ {w w' p}, rd w p → Below w.heap.size w w' → rd w' p

section
variable {P : Type} (K : Kind P)
def Kind.row (ps : List P) : List Value := ps.flatMap K.cells
/-- The slice v reads as these elements. -/
def Kind.At (w : World) (v : Value) (ps : List P) : Prop := ∃ a cap, v = .slice a ps.length cap ∧ Lies w a (K.row ps) ∧ ∀ p ∈ ps, K.rd w p
/-- The slice v owns these elements. -/
def Kind.Own (w : World) (v : Value) (ps : List P) : Prop := w.ownsRow 0 K.ty K.size v ps.length (K.row ps) ∧ ∀ p ∈ ps, K.own w p
/-- All blocks beneath a slice. -/
def Kind.fp (v : Value) (ps : List P) : List Nat := blk v ++ ps.flatMap K.foot
end

section
variable {P : Type} {K : Kind P} {w w' : World} {v : Value} {ps : List P}

theorem Kind.row_length (ps : List P) : (K.row ps).length = ps.length * K.size := by
  induction ps with
  | nil => simp [Kind.row]
  | cons p r ih =>
    simp only [Kind.row, List.flatMap_cons, List.length_append, K.len, List.length_cons] at ih ⊢
    rw [ih, Nat.add_mul]
    omega
theorem Kind.row_get (ps : List P) (i : Nat) (hi : i < ps.length) (j : Nat) (hj : j < K.size) : (K.row ps)[i * K.size + j]? = (K.cells ps[i])[j]? := by
  induction ps generalizing i with
  | nil => simp at hi
  | cons p r ih =>
    simp only [Kind.row, List.flatMap_cons]
    cases i with
    | zero =>
      rw [List.getElem?_append_left (by rw [K.len]; omega)]
      simp
    | succ i =>
      rw [List.getElem?_append_right (by rw [K.len, Nat.add_mul]; omega), K.len]
      have := ih i (by simpa using hi)
      simp only [Kind.row] at this
      rw [show (i + 1) * K.size + j - K.size = i * K.size + j by rw [Nat.add_mul]; omega, this]
      simp
theorem Kind.row_out (ps : List P) (j : Nat) (h : ps.length * K.size ≤ j) : (K.row ps)[j]? = none := List.getElem?_eq_none (by rw [Kind.row_length]; exact h)

theorem Kind.Own.at (h : K.Own w v ps) : K.At w v ps := by
  obtain ⟨a, c, rfl⟩ := own_shape h.1
  exact ⟨a, c, rfl, Lies.own h.1, fun p hp => K.own_rd (h.2 p hp)⟩
theorem Kind.At.below (h : K.At w v ps) (hb : Below w.heap.size w w') : K.At w' v ps := by
  obtain ⟨a, c, e, hl, hr⟩ := h
  exact ⟨a, c, e, hl.below hb, fun p hp => K.rd_below (hr p hp) hb⟩
theorem Kind.At.shape (h : K.At w v ps) : ∃ a cap, v = .slice a ps.length cap := by
  obtain ⟨a, c, e, _⟩ := h
  exact ⟨a, c, e⟩
theorem Kind.Own.shape (h : K.Own w v ps) : ∃ a cap, v = .slice a ps.length cap := own_shape h.1
theorem Kind.Own.out {F : List Nat} (h : K.Own w v ps) (ho : Out F w w') (hd : ∀ k ∈ K.fp v ps, k ∉ F) : K.Own w' v ps := by
  refine ⟨own_outs h.1 ho (fun k hk => hd k (by simp [Kind.fp, hk])), fun p hp => K.own_out (h.2 p hp) ho (fun k hk => hd k ?_)⟩
  simp only [Kind.fp, List.mem_append, List.mem_flatMap]
  exact Or.inr ⟨p, hp, hk⟩
theorem Kind.Own.below (h : K.Own w v ps) (hb : Below w.heap.size w w') : K.Own w' v ps := h.out (Out.of_below (F := []) hb) (fun _ _ => by simp)
theorem Kind.Own.lt (h : K.Own w v ps) : ∀ k ∈ K.fp v ps, k < w.heap.size := by
  intro k hk
  simp only [Kind.fp, List.mem_append, List.mem_flatMap] at hk
  rcases hk with hk | ⟨p, hp, hk⟩
  · exact (h.1.lt k (by simpa [blk] using hk)).2
  · exact K.own_lt (h.2 p hp) k hk
/-- The cells of element i, where the slice is read. -/
theorem Kind.At.cell {a : Option Addr} {n cap : Nat} (h : K.At w (.slice a n cap) ps) (hs : 0 < K.size) (i : Nat) (hi : i < ps.length) :
    ∃ b off, a = some ⟨b, off, none⟩ ∧ b < w.heap.size ∧ (∀ j x, (K.cells ps[i])[j]? = some x → w.cell? ⟨b, off + i * K.size + j, none⟩ = some x) ∧ K.rd w ps[i] := by
  obtain ⟨a', c, e, hl, hr⟩ := h
  simp only [Value.slice.injEq] at e
  obtain ⟨rfl, _, _⟩ := e
  rcases hl with h0 | ⟨b, off, ha, hlt, hc⟩
  · have := Kind.row_length (K := K) ps
    rw [h0] at this
    simp only [List.length_nil] at this
    have h1 : 1 * K.size ≤ ps.length * K.size := Nat.mul_le_mul_right _ (by omega)
    omega
  · refine ⟨b, off, ha, hlt, fun j x hx => ?_, hr _ (List.getElem_mem hi)⟩
    have hj : j < K.size := by rw [← K.len ps[i]]; exact (List.getElem?_eq_some_iff.1 hx).1
    rw [show off + i * K.size + j = off + (i * K.size + j) by omega]
    exact hc _ _ (by rw [Kind.row_get ps i hi j hj]; exact hx)
/-- The block of a slice that is owned and not empty. -/
theorem Kind.Own.blkOf {a : Option Addr} {n cap : Nat} (h : K.Own w (.slice a n cap) ps) (hn : 0 < ps.length) : ∃ g, a = some ⟨g, 0, none⟩ := by
  rcases h.1.2 with ⟨he, h0⟩ | ⟨g, cap, cur, he, r⟩
  · omega
  · simp only [Value.slice.injEq] at he
    exact ⟨g, he.1⟩
theorem Kind.Own.cell {g n cap : Nat} (h : K.Own w (.slice (some ⟨g, 0, none⟩) n cap) ps) (i : Nat) (hi : i < ps.length) (j : Nat) (x : Value) (hx : (K.cells ps[i])[j]? = some x) : w.cell? ⟨g, i * K.size + j, none⟩ = some x ∧ w.frozen? ⟨g, i * K.size + j, none⟩ = false := by
  obtain ⟨a', c, e⟩ := h.shape
  simp only [Value.slice.injEq] at e
  obtain ⟨_, rfl, _⟩ := e
  have hj : j < K.size := by rw [← K.len ps[i]]; exact (List.getElem?_eq_some_iff.1 hx).1
  have hlt : i * K.size + j < ps.length * K.size := by
    have : (i + 1) * K.size ≤ ps.length * K.size := Nat.mul_le_mul_right _ (by omega)
    rw [Nat.add_mul] at this
    omega
  exact ⟨by rw [h.1.cellAt _ hlt, Kind.row_get ps i hi j hj]; exact hx, h.1.frozenAt _⟩

/-- Cells that are written over from o on. -/
def setFrom (xs : List Value) (o : Nat) : List Value → List Value
  | [] => xs
  | y :: ys => setFrom (xs.set o y) (o + 1) ys
theorem setFrom_length (xs : List Value) (o : Nat) (ys : List Value) : (setFrom xs o ys).length = xs.length := by
  induction ys generalizing xs o with
  | nil => rfl
  | cons y ys ih => simp [setFrom, ih]
theorem setFrom_get (xs : List Value) (o : Nat) (ys : List Value) (j : Nat) (hj : j < xs.length) : (setFrom xs o ys)[j]? = if o ≤ j ∧ j < o + ys.length then ys[j - o]? else xs[j]? := by
  induction ys generalizing xs o with
  | nil =>
    rw [if_neg (by simp only [List.length_nil]; omega)]
    rfl
  | cons y ys ih =>
    rw [setFrom, ih (xs.set o y) (o + 1) (by simpa using hj)]
    by_cases h1 : o + 1 ≤ j ∧ j < o + 1 + ys.length
    · rw [if_pos h1, if_pos (by simp; omega), show j - o = (j - (o + 1)) + 1 by omega]
      simp
    · rw [if_neg h1, List.getElem?_set]
      by_cases h2 : o = j
      · subst h2
        rw [if_pos rfl, if_pos hj, if_pos (by simp)]
        simp
      · rw [if_neg h2, if_neg (by simp; omega)]
theorem Kind.row_put (ps : List P) (i : Nat) (hi : i < ps.length) (p : P) : setFrom (K.row ps) (i * K.size) (K.cells p) = K.row (ps.set i p) := by
  have hl := Kind.row_length (K := K) ps
  have hl2 := Kind.row_length (K := K) (ps.set i p)
  rw [List.length_set] at hl2
  have hi2 : (i + 1) * K.size ≤ ps.length * K.size := Nat.mul_le_mul_right _ (by omega)
  rw [Nat.add_mul, Nat.one_mul] at hi2
  apply List.ext_getElem?
  intro j
  by_cases hj : j < ps.length * K.size
  · rw [setFrom_get _ _ _ _ (by omega), K.len]
    have hs : 0 < K.size := by
      rcases Nat.eq_zero_or_pos K.size with h0 | h0
      · rw [h0] at hj; simp at hj
      · exact h0
    have hd := Nat.div_add_mod j K.size
    have hm := Nat.mod_lt j hs
    have hq : j / K.size < ps.length := Nat.div_lt_of_lt_mul (by rw [Nat.mul_comm]; exact hj)
    have e : j = j / K.size * K.size + j % K.size := by rw [Nat.mul_comm]; exact hd.symm
    have e2 := Kind.row_get (K := K) (ps.set i p) (j / K.size) (by simpa using hq) (j % K.size) hm
    rw [← e] at e2
    have e3 := Kind.row_get (K := K) ps (j / K.size) hq (j % K.size) hm
    rw [← e] at e3
    rw [e2, e3]
    by_cases hk : j / K.size = i
    · subst hk
      rw [if_pos (by omega)]
      simp only [List.getElem_set_self]
      congr 1
      omega
    · have hne : ¬ (i * K.size ≤ j ∧ j < i * K.size + K.size) := by
        rintro ⟨h1, h2⟩
        apply hk
        exact Nat.div_eq_of_lt_le (by omega) (by rw [Nat.add_mul]; omega)
      rw [if_neg hne, List.getElem_set_ne (Ne.symm hk)]
  · rw [List.getElem?_eq_none (by rw [setFrom_length]; omega), List.getElem?_eq_none (by omega)]
theorem Kind.row_store (ps : List P) (i : Nat) (hi : i < ps.length) (p : P) (j : Nat) (u : Value) (hc : K.cells p = (K.cells ps[i]).set j u) (hj : j < K.size) : (K.row ps).set (i * K.size + j) u = K.row (ps.set i p) := by
  rw [← Kind.row_put ps i hi p, hc]
  have hl := Kind.row_length (K := K) ps
  have hi2 : (i + 1) * K.size ≤ ps.length * K.size := Nat.mul_le_mul_right _ (by omega)
  rw [Nat.add_mul, Nat.one_mul] at hi2
  apply List.ext_getElem?
  intro k
  by_cases hk : k < ps.length * K.size
  · rw [setFrom_get _ _ _ _ (by omega), List.length_set, K.len, List.getElem?_set]
    by_cases h1 : i * K.size + j = k
    · subst h1
      rw [if_pos rfl, if_pos (by omega), if_pos (by omega), List.getElem?_set, if_pos (by omega), if_pos (by rw [K.len]; omega)]
    · rw [if_neg h1]
      by_cases h2 : i * K.size ≤ k ∧ k < i * K.size + K.size
      · rw [if_pos h2, List.getElem?_set, if_neg (by omega)]
        have := Kind.row_get (K := K) ps i hi (k - i * K.size) (by omega)
        rw [show i * K.size + (k - i * K.size) = k by omega] at this
        exact this
      · rw [if_neg h2]
  · rw [List.getElem?_eq_none (by simp; omega), List.getElem?_eq_none (by rw [setFrom_length]; omega)]

theorem foot_set (ps : List P) (i : Nat) (hi : i < ps.length) (p : P) (hf : K.foot p = K.foot ps[i]) : (ps.set i p).flatMap K.foot = ps.flatMap K.foot := by
  induction ps generalizing i with
  | nil => simp at hi
  | cons q r ih =>
    cases i with
    | zero => simp only [List.set_cons_zero, List.flatMap_cons, hf, List.getElem_cons_zero]
    | succ i => simp only [List.set_cons_succ, List.flatMap_cons, ih i (by simpa using hi) (by simpa using hf)]
theorem Kind.fp_set (v : Value) (ps : List P) (i : Nat) (hi : i < ps.length) (p : P) (hf : K.foot p = K.foot ps[i]) : K.fp v (ps.set i p) = K.fp v ps := by
  simp only [Kind.fp, foot_set ps i hi p hf]
theorem foot_apart {ps : List P} (h : (ps.flatMap K.foot).Nodup) (i : Nat) (hi : i < ps.length) (j : Nat) (hj : j < ps.length) (hne : i ≠ j) : ∀ k ∈ K.foot ps[j], k ∉ K.foot ps[i] := by
  induction ps generalizing i j with
  | nil => simp at hi
  | cons p r ih =>
    rw [List.flatMap_cons, List.nodup_append] at h
    obtain ⟨_, h2, h3⟩ := h
    intro k hk hk2
    cases i with
    | zero =>
      cases j with
      | zero => exact hne rfl
      | succ j =>
        simp only [List.getElem_cons_succ, List.getElem_cons_zero] at hk hk2
        exact h3 k hk2 k (List.mem_flatMap.2 ⟨_, List.getElem_mem (by simpa using hj), hk⟩) rfl
    | succ i =>
      cases j with
      | zero =>
        simp only [List.getElem_cons_succ, List.getElem_cons_zero] at hk hk2
        exact h3 k hk k (List.mem_flatMap.2 ⟨_, List.getElem_mem (by simpa using hi), hk2⟩) rfl
      | succ j =>
        simp only [List.getElem_cons_succ] at hk hk2
        exact ih h2 i (by simpa using hi) j (by simpa using hj) (by omega) k hk hk2
/-- One element is written over, its blocks and its other cells as they were. -/
theorem Kind.Own.store {g n cap : Nat} (h : K.Own w (.slice (some ⟨g, 0, none⟩) n cap) ps) (hnd : (K.fp (.slice (some ⟨g, 0, none⟩) n cap) ps).Nodup) (i : Nat) (hi : i < ps.length) (p : P) (j : Nat) (u : Value) (hj : j < K.size)
    (hc : K.cells p = (K.cells ps[i]).set j u) (hf : K.foot p = K.foot ps[i]) (hown : ∀ w', K.own w' ps[i] → K.own w' p) :
    K.Own (w.setCell ⟨g, i * K.size + j, none⟩ u) (.slice (some ⟨g, 0, none⟩) n cap) (ps.set i p) ∧ K.fp (.slice (some ⟨g, 0, none⟩) n cap) (ps.set i p) = K.fp (.slice (some ⟨g, 0, none⟩) n cap) ps := by
  obtain ⟨a', c, e⟩ := h.shape
  simp only [Value.slice.injEq] at e
  obtain ⟨_, rfl, _⟩ := e
  refine ⟨⟨?_, ?_⟩, Kind.fp_set _ ps i hi p hf⟩
  · have h1 := (h.1.stored (i * K.size + j) u).1
    rw [Kind.row_store ps i hi p j u hc hj] at h1
    rw [List.length_set]
    exact h1
  · have hg : ∀ q ∈ ps, ∀ k ∈ K.foot q, k ∉ [g] := by
      intro q hq k hk
      simp only [Kind.fp, blk, Value.ownBlock, Option.toList, List.cons_append, List.nil_append, List.nodup_cons] at hnd
      simp only [List.mem_singleton]
      rintro rfl
      exact hnd.1 (List.mem_flatMap.2 ⟨q, hq, hk⟩)
    have hall : ∀ q ∈ ps, K.own (w.setCell ⟨g, i * K.size + j, none⟩ u) q := fun q hq => K.own_out (h.2 q hq) (Out.setCell w g _ u) (hg q hq)
    intro q hq
    rcases List.mem_or_eq_of_mem_set hq with hq | rfl
    · exact hall q hq
    · exact hown _ (hall _ (List.getElem_mem hi))
/-- What lies beneath one element turns. -/
theorem Kind.Own.turn (h : K.Own w v ps) (hnd : (K.fp v ps).Nodup) (i : Nat) (hi : i < ps.length) (p : P) {F : List Nat} (ho : Out F w w') (hF : ∀ k ∈ F, k ∈ K.foot ps[i])
    (hc : K.cells p = K.cells ps[i]) (hf : K.foot p = K.foot ps[i]) (hown : K.own w' p) : K.Own w' v (ps.set i p) ∧ K.fp v (ps.set i p) = K.fp v ps := by
  have hnd2 := hnd
  simp only [Kind.fp] at hnd2
  rw [List.nodup_append] at hnd2
  refine ⟨⟨?_, ?_⟩, Kind.fp_set _ ps i hi p hf⟩
  · have e : K.row (ps.set i p) = K.row ps := by
      rw [← Kind.row_put ps i hi p, hc, Kind.row_put ps i hi ps[i], List.set_getElem_self]
    rw [e, List.length_set]
    refine own_outs h.1 ho (fun k hk hkF => ?_)
    exact hnd2.2.2 k hk k (List.mem_flatMap.2 ⟨ps[i], List.getElem_mem hi, hF k hkF⟩) rfl
  · intro q hq
    obtain ⟨j, hj, rfl⟩ := List.getElem_of_mem hq
    rw [List.length_set] at hj
    by_cases hij : i = j
    · subst hij
      rw [List.getElem_set_self]
      exact hown
    · rw [List.getElem_set_ne hij]
      exact K.own_out (h.2 _ (List.getElem_mem hj)) ho (fun k hk hkF => foot_apart hnd2.2.1 i hi j hj hij k hk (hF k hkF))
/-- A whole element is written over by a new one. -/
theorem Kind.Own.put {g n cap : Nat} (h : K.Own w (.slice (some ⟨g, 0, none⟩) n cap) ps) (i : Nat) (hi : i < ps.length) (p : P) (hrow : w'.ownsRow 0 K.ty K.size (.slice (some ⟨g, 0, none⟩) n cap) ps.length (setFrom (K.row ps) (i * K.size) (K.cells p)))
    (ho : Out [g] w w') (hg : ∀ q ∈ ps, ∀ k ∈ K.foot q, k ≠ g) (hown : K.own w p) (hp : ∀ k ∈ K.foot p, k ≠ g) : K.Own w' (.slice (some ⟨g, 0, none⟩) n cap) (ps.set i p) := by
  rw [Kind.row_put ps i hi p] at hrow
  refine ⟨by rw [List.length_set]; exact hrow, fun q hq => ?_⟩
  rcases List.mem_or_eq_of_mem_set hq with hq | rfl
  · exact K.own_out (h.2 q hq) ho (fun k hk => by simpa using hg q hq k hk)
  · exact K.own_out hown ho (fun k hk => by simpa using hp k hk)

/-- Marks: from c on, element by element. -/
def mkL (mk : Int → P → P) (nm : P → Nat) : Int → List P → List P
  | _, [] => []
  | c, p :: r => mk c p :: mkL mk nm (c + nm p) r
def nmL (nm : P → Nat) (ps : List P) : Nat := (ps.map nm).sum
theorem mkL_length (mk : Int → P → P) (nm : P → Nat) (c : Int) (ps : List P) : (mkL mk nm c ps).length = ps.length := by
  induction ps generalizing c with
  | nil => rfl
  | cons p r ih => simp [mkL, ih]
theorem nmL_succ (nm : P → Nat) (ps : List P) (k : Nat) (h : k < ps.length) : nmL nm (ps.take (k + 1)) = nmL nm (ps.take k) + nm ps[k] := by
  rw [List.take_succ_eq_append_getElem h]
  simp only [nmL, List.map_append, List.map_cons, List.map_nil, List.sum_append, List.sum_cons, List.sum_nil, Nat.add_zero]
theorem nmL_le (nm : P → Nat) (ps : List P) (k : Nat) : nmL nm (ps.take k) ≤ nmL nm ps := by
  have e : nmL nm ps = nmL nm (ps.take k) + nmL nm (ps.drop k) := by
    conv => lhs; rw [← List.take_append_drop k ps]
    simp only [nmL, List.map_append, List.sum_append]
  omega
theorem mkL_get (mk : Int → P → P) (nm : P → Nat) (c : Int) (ps : List P) (k : Nat) (h : k < ps.length) : (mkL mk nm c ps)[k]'(by rw [mkL_length]; exact h) = mk (c + nmL nm (ps.take k)) ps[k] := by
  induction ps generalizing c k with
  | nil => simp at h
  | cons p r ih =>
    cases k with
    | zero => simp [mkL, nmL]
    | succ k =>
      simp only [mkL, List.getElem_cons_succ, List.take_succ_cons]
      rw [ih (c + nm p) k (by simpa using h)]
      congr 1
      simp only [nmL, List.map_cons, List.sum_cons]
      omega
/-- The first k elements marked. -/
def half (mk : Int → P → P) (nm : P → Nat) (c : Int) (ps : List P) (k : Nat) : List P := (mkL mk nm c ps).take k ++ ps.drop k
theorem half_zero (mk : Int → P → P) (nm : P → Nat) (c : Int) (ps : List P) : half mk nm c ps 0 = ps := by simp [half]
theorem half_all (mk : Int → P → P) (nm : P → Nat) (c : Int) (ps : List P) : half mk nm c ps ps.length = mkL mk nm c ps := by
  have := mkL_length mk nm c ps
  simp [half, List.take_of_length_le (show (mkL mk nm c ps).length ≤ ps.length by omega)]
theorem half_length (mk : Int → P → P) (nm : P → Nat) (c : Int) (ps : List P) (k : Nat) (hk : k ≤ ps.length) : (half mk nm c ps k).length = ps.length := by
  have := mkL_length mk nm c ps
  simp [half]
  omega
theorem half_get (mk : Int → P → P) (nm : P → Nat) (c : Int) (ps : List P) (k : Nat) (hk : k < ps.length) : (half mk nm c ps k)[k]'(by rw [half_length _ _ _ _ _ (by omega)]; exact hk) = ps[k] := by
  have := mkL_length mk nm c ps
  simp only [half]
  rw [List.getElem_append_right (by simp; omega)]
  simp only [List.length_take, this, List.getElem_drop]
  congr 1
  omega
theorem half_set (mk : Int → P → P) (nm : P → Nat) (c : Int) (ps : List P) (k : Nat) (hk : k < ps.length) : (half mk nm c ps k).set k (mk (c + nmL nm (ps.take k)) ps[k]) = half mk nm c ps (k + 1) := by
  have hm := mkL_length mk nm c ps
  rw [← mkL_get mk nm c ps k hk]
  simp only [half]
  rw [List.set_append_right _ _ (by simp; omega), show k - ((mkL mk nm c ps).take k).length = 0 by simp; omega, List.drop_eq_getElem_cons hk, List.set_cons_zero, List.take_succ_eq_append_getElem (show k < (mkL mk nm c ps).length by omega), List.append_assoc]
  rfl

end

end Go.Proofs.Yticfbapipdhhmaa

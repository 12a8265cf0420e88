/- Memory by footprints: which blocks a value owns, how what is read or owned lasts, and lists of whatever elements. No condition. -/
import Derived.Test.YtmlkfmjenkcflaaGreatDoorGB
import Derived.Test.YtmlkfmjenkcflaaGreatDoorGA
namespace Go.Proofs.YtmlkfmjenkcflaaGreatDoor
open Go.RowKit
set_option linter.unusedVariables false
set_option maxRecDepth 100000
set_option linter.unusedSimpArgs false

/-- Only the blocks of F turn. -/
structure Out (F : List Nat) (w w' : World) : Prop where
  os : w'.os = w.os
  tape : w'.tape = w.tape
  output : w'.output = w.output
  size : w.heap.size ≤ w'.heap.size
  block : ∀ k, k < w.heap.size → k ∉ F → w'.heap[k]? = w.heap[k]?
theorem Out.refl (F : List Nat) (w : World) : Out F w w := ⟨rfl, rfl, rfl, Nat.le_refl _, fun _ _ _ => rfl⟩
theorem Out.trans {F : List Nat} {a b c : World} (h : Out F a b) (k : Out F b c) : Out F a c :=
  ⟨k.os.trans h.os, k.tape.trans h.tape, k.output.trans h.output, Nat.le_trans h.size k.size, fun i hi hn => (k.block i (Nat.lt_of_lt_of_le hi h.size) hn).trans (h.block i hi hn)⟩
theorem Out.mono {F G : List Nat} {w w' : World} (h : Out F w w') (hF : ∀ k ∈ F, k ∈ G) : Out G w w' := ⟨h.os, h.tape, h.output, h.size, fun k hk hn => h.block k hk (fun e => hn (hF k e))⟩
theorem Out.of_below {F : List Nat} {w w' : World} (h : Below w.heap.size w w') : Out F w w' := ⟨h.os, h.tape, h.output, h.size, fun k hk _ => h.block k hk⟩
theorem Out.of_grown {w w' : World} {row : Option Nat} (h : w.grownBy w' row) : Out row.toList w w' := ⟨h.os, h.tape, h.output, h.size, fun k hk hn => h.block k hk (fun e => hn (by rw [← e]; simp))⟩
theorem Out.setCell (w : World) (g j : Nat) (u : Value) : Out [g] w (w.setCell ⟨g, j, none⟩ u) := ⟨rfl, rfl, rfl, by simp, fun k _ hn => Below.heap_setCell w _ _ k (by simpa using hn)⟩
theorem Out.keep {B : Nat} {F : List Nat} {a w w' : World} (h : Below B a w) (ho : Out F w w') (hB : B ≤ w.heap.size) (hF : ∀ k ∈ F, B ≤ k) : Below B a w' :=
  ⟨ho.os.trans h.os, ho.tape.trans h.tape, ho.output.trans h.output, Nat.le_trans h.size ho.size, fun k hk => (ho.block k (by omega) (fun e => by have := hF k e; omega)).trans (h.block k hk)⟩

/-- The block that a slice begins in. -/
def blk (v : Value) : List Nat := v.ownBlock.toList
theorem own_outs {w w' : World} {base e s n : Nat} {v : Value} {xs : List Value} {F : List Nat} (h : w.ownsRow base e s v n xs) (ho : Out F w w') (hd : ∀ k ∈ blk v, k ∉ F) : w'.ownsRow base e s v n xs := by
  refine ⟨h.1, ?_⟩
  rcases h.2 with h2 | ⟨g, cap, cur, hv, hg, hh, r⟩
  · exact Or.inl h2
  · refine Or.inr ⟨g, cap, cur, hv, hg, ?_, r⟩
    rw [ho.block g (Array.getElem?_eq_some_iff.1 hh).1 (hd g (by rw [hv]; simp [blk, Value.ownBlock]))]
    exact hh

/-- A kind of elements: their cells, when they are read and owned, and the blocks beneath them. -/
structure Kind (P : Type) where
  ty : Nat
  size : Nat
  cells : P → List Value
  own : World → P → Prop
  rd : World → P → Prop
  foot : P → List Nat
  len : ∀ p, (cells p).length = size
  own_rd : ∀ {w p}, own w p → rd w p
  own_out : ∀ {w w' p F}, own w p → Out F w w' → (∀ k ∈ foot p, k ∉ F) → own w' p
  own_lt : ∀ {w p}, own w p → ∀ k ∈ foot p, k < w.heap.size
  rd_below : ∀ {w w' p}, rd w p → Below w.heap.size w w' → rd w' p

section
variable {P : Type} (K : Kind P)
def Kind.row (ps : List P) : List Value := ps.flatMap K.cells
/-- The slice v reads as these elements. -/
def Kind.At (w : World) (v : Value) (ps : List P) : Prop := ∃ a cap, v = .slice a ps.length cap ∧ Lies w a (K.row ps) ∧ ∀ p ∈ ps, K.rd w p
/-- The slice v owns these elements. -/
def Kind.Own (w : World) (v : Value) (ps : List P) : Prop := w.ownsRow 0 K.ty K.size v ps.length (K.row ps) ∧ ∀ p ∈ ps, K.own w p
/-- All blocks beneath a slice. -/
def Kind.fp (v : Value) (ps : List P) : List Nat := blk v ++ ps.flatMap K.foot
end

section
variable {P : Type} {K : Kind P} {w w' : World} {v : Value} {ps : List P}

theorem Kind.row_length (ps : List P) : (K.row ps).length = ps.length * K.size := by
  induction ps with
  | nil => simp [Kind.row]
  | cons p r ih =>
    simp only [Kind.row, List.flatMap_cons, List.length_append, K.len, List.length_cons] at ih ⊢
    rw [ih, Nat.add_mul]
    omega
theorem Kind.row_get (ps : List P) (i : Nat) (hi : i < ps.length) (j : Nat) (hj : j < K.size) : (K.row ps)[i * K.size + j]? = (K.cells ps[i])[j]? := by
  induction ps generalizing i with
  | nil => simp at hi
  | cons p r ih =>
    simp only [Kind.row, List.flatMap_cons]
    cases i with
    | zero =>
      rw [List.getElem?_append_left (by rw [K.len]; omega)]
      simp
    | succ i =>
      rw [List.getElem?_append_right (by rw [K.len, Nat.add_mul]; omega), K.len]
      have := ih i (by simpa using hi)
      simp only [Kind.row] at this
      rw [show (i + 1) * K.size + j - K.size = i * K.size + j by rw [Nat.add_mul]; omega, this]
      simp
theorem Kind.row_out (ps : List P) (j : Nat) (h : ps.length * K.size ≤ j) : (K.row ps)[j]? = none := List.getElem?_eq_none (by rw [Kind.row_length]; exact h)

theorem Kind.Own.at (h : K.Own w v ps) : K.At w v ps := by
  obtain ⟨a, c, rfl⟩ := own_shape h.1
  exact ⟨a, c, rfl, Lies.own h.1, fun p hp => K.own_rd (h.2 p hp)⟩
theorem Kind.At.below (h : K.At w v ps) (hb : Below w.heap.size w w') : K.At w' v ps := by
  obtain ⟨a, c, e, hl, hr⟩ := h
  exact ⟨a, c, e, hl.below hb, fun p hp => K.rd_below (hr p hp) hb⟩
theorem Kind.At.shape (h : K.At w v ps) : ∃ a cap, v = .slice a ps.length cap := by
  obtain ⟨a, c, e, _⟩ := h
  exact ⟨a, c, e⟩
theorem Kind.Own.shape (h : K.Own w v ps) : ∃ a cap, v = .slice a ps.length cap := own_shape h.1
theorem Kind.Own.out {F : List Nat} (h : K.Own w v ps) (ho : Out F w w') (hd : ∀ k ∈ K.fp v ps, k ∉ F) : K.Own w' v ps := by
  refine ⟨own_outs h.1 ho (fun k hk => hd k (by simp [Kind.fp, hk])), fun p hp => K.own_out (h.2 p hp) ho (fun k hk => hd k ?_)⟩
  simp only [Kind.fp, List.mem_append, List.mem_flatMap]
  exact Or.inr ⟨p, hp, hk⟩
theorem Kind.Own.below (h : K.Own w v ps) (hb : Below w.heap.size w w') : K.Own w' v ps := h.out (Out.of_below (F := []) hb) (fun _ _ => by simp)
theorem Kind.Own.lt (h : K.Own w v ps) : ∀ k ∈ K.fp v ps, k < w.heap.size := by
  intro k hk
  simp only [Kind.fp, List.mem_append, List.mem_flatMap] at hk
  rcases hk with hk | ⟨p, hp, hk⟩
  · exact (h.1.lt k (by simpa [blk] using hk)).2
  · exact K.own_lt (h.2 p hp) k hk
/-- The cells of element i, where the slice is read. -/
theorem Kind.At.cell {a : Option Addr} {n cap : Nat} (h : K.At w (.slice a n cap) ps) (hs : 0 < K.size) (i : Nat) (hi : i < ps.length) :
    ∃ b off, a = some ⟨b, off, none⟩ ∧ b < w.heap.size ∧ (∀ j x, (K.cells ps[i])[j]? = some x → w.cell? ⟨b, off + i * K.size + j, none⟩ = some x) ∧ K.rd w ps[i] := by
  obtain ⟨a', c, e, hl, hr⟩ := h
  simp only [Value.slice.injEq] at e
  obtain ⟨rfl, _, _⟩ := e
  rcases hl with h0 | ⟨b, off, ha, hlt, hc⟩
  · have := Kind.row_length (K := K) ps
    rw [h0] at this
    simp only [List.length_nil] at this
    have h1 : 1 * K.size ≤ ps.length * K.size := Nat.mul_le_mul_right _ (by omega)
    omega
  · refine ⟨b, off, ha, hlt, fun j x hx => ?_, hr _ (List.getElem_mem hi)⟩
    have hj : j < K.size := by rw [← K.len ps[i]]; exact (List.getElem?_eq_some_iff.1 hx).1
    rw [show off + i * K.size + j = off + (i * K.size + j) by omega]
    exact hc _ _ (by rw [Kind.row_get ps i hi j hj]; exact hx)
/-- The block of a slice that is owned and not empty. -/
theorem Kind.Own.blkOf {a : Option Addr} {n cap : Nat} (h : K.Own w (.slice a n cap) ps) (hn : 0 < ps.length) : ∃ g, a = some ⟨g, 0, none⟩ := by
  rcases h.1.2 with ⟨he, h0⟩ | ⟨g, cap, cur, he, r⟩
  · omega
  · simp only [Value.slice.injEq] at he
    exact ⟨g, he.1⟩
theorem Kind.Own.cell {g n cap : Nat} (h : K.Own w (.slice (some ⟨g, 0, none⟩) n cap) ps) (i : Nat) (hi : i < ps.length) (j : Nat) (x : Value) (hx : (K.cells ps[i])[j]? = some x) : w.cell? ⟨g, i * K.size + j, none⟩ = some x ∧ w.frozen? ⟨g, i * K.size + j, none⟩ = false := by
  obtain ⟨a', c, e⟩ := h.shape
  simp only [Value.slice.injEq] at e
  obtain ⟨_, rfl, _⟩ := e
  have hj : j < K.size := by rw [← K.len ps[i]]; exact (List.getElem?_eq_some_iff.1 hx).1
  have hlt : i * K.size + j < ps.length * K.size := by
    have : (i + 1) * K.size ≤ ps.length * K.size := Nat.mul_le_mul_right _ (by omega)
    rw [Nat.add_mul] at this
    omega
  exact ⟨by rw [h.1.cellAt _ hlt, Kind.row_get ps i hi j hj]; exact hx, h.1.frozenAt _⟩

/-- Cells that are written over from o on. -/
def setFrom (xs : List Value) (o : Nat) : List Value → List Value
  | [] => xs
  | y :: ys => setFrom (xs.set o y) (o + 1) ys
theorem setFrom_length (xs : List Value) (o : Nat) (ys : List Value) : (setFrom xs o ys).length = xs.length := by
  induction ys generalizing xs o with
  | nil => rfl
  | cons y ys ih => simp [setFrom, ih]
theorem setFrom_get (xs : List Value) (o : Nat) (ys : List Value) (j : Nat) (hj : j < xs.length) : (setFrom xs o ys)[j]? = if o ≤ j ∧ j < o + ys.length then ys[j - o]? else xs[j]? := by
  induction ys generalizing xs o with
  | nil =>
    rw [if_neg (by simp only [List.length_nil]; omega)]
    rfl
  | cons y ys ih =>
    rw [setFrom, ih (xs.set o y) (o + 1) (by simpa using hj)]
    by_cases h1 : o + 1 ≤ j ∧ j < o + 1 + ys.length
    · rw [if_pos h1, if_pos (by simp; omega), show j - o = (j - (o + 1)) + 1 by omega]
      simp
    · rw [if_neg h1, List.getElem?_set]
      by_cases h2 : o = j
      · subst h2
        rw [if_pos rfl, if_pos hj, if_pos (by simp)]
        simp
      · rw [if_neg h2, if_neg (by simp; omega)]
theorem Kind.row_put (ps : List P) (i : Nat) (hi : i < ps.length) (p : P) : setFrom (K.row ps) (i * K.size) (K.cells p) = K.row (ps.set i p) := by
  have hl := Kind.row_length (K := K) ps
  have hl2 := Kind.row_length (K := K) (ps.set i p)
  rw [List.length_set] at hl2
  have hi2 : (i + 1) * K.size ≤ ps.length * K.size := Nat.mul_le_mul_right _ (by omega)
  rw [Nat.add_mul, Nat.one_mul] at hi2
  apply List.ext_getElem?
  intro j
  by_cases hj : j < ps.length * K.size
  · rw [setFrom_get _ _ _ _ (by omega), K.len]
    have hs : 0 < K.size := by
      rcases Nat.eq_zero_or_pos K.size with h0 | h0
      · rw [h0] at hj; simp at hj
      · exact h0
    have hd := Nat.div_add_mod j K.size
    have hm := Nat.mod_lt j hs
    have hq : j / K.size < ps.length := Nat.div_lt_of_lt_mul (by rw [Nat.mul_comm]; exact hj)
    have e : j = j / K.size * K.size + j % K.size := by rw [Nat.mul_comm]; exact hd.symm
    have e2 := Kind.row_get (K := K) (ps.set i p) (j / K.size) (by simpa using hq) (j % K.size) hm
    rw [← e] at e2
    have e3 := Kind.row_get (K := K) ps (j / K.size) hq (j % K.size) hm
    rw [← e] at e3
    rw [e2, e3]
    by_cases hk : j / K.size = i
    · subst hk
      rw [if_pos (by omega)]
      simp only [List.getElem_set_self]
      congr 1
      omega
    · have hne : ¬ (i * K.size ≤ j ∧ j < i * K.size + K.size) := by
        rintro ⟨h1, h2⟩
        apply hk
        exact Nat.div_eq_of_lt_le (by omega) (by rw [Nat.add_mul]; omega)
      rw [if_neg hne, List.getElem_set_ne (Ne.symm hk)]
  · rw [List.getElem?_eq_none (by rw [setFrom_length]; omega), List.getElem?_eq_none (by omega)]
theorem Kind.row_store (ps : List P) (i : Nat) (hi : i < ps.length) (p : P) (j : Nat) (u : Value) (hc : K.cells p = (K.cells ps[i]).set j u) (hj : j < K.size) : (K.row ps).set (i * K.size + j) u = K.row (ps.set i p) := by
  rw [← Kind.row_put ps i hi p, hc]
  have hl := Kind.row_length (K := K) ps
  have hi2 : (i + 1) * K.size ≤ ps.length * K.size := Nat.mul_le_mul_right _ (by omega)
  rw [Nat.add_mul, Nat.one_mul] at hi2
  apply List.ext_getElem?
  intro k
  by_cases hk : k < ps.length * K.size
  · rw [setFrom_get _ _ _ _ (by omega), List.length_set, K.len, List.getElem?_set]
    by_cases h1 : i * K.size + j = k
    · subst h1
      rw [if_pos rfl, if_pos (by omega), if_pos (by omega), List.getElem?_set, if_pos (by omega), if_pos (by rw [K.len]; omega)]
    · rw [if_neg h1]
      by_cases h2 : i * K.size ≤ k ∧ k < i * K.size + K.size
      · rw [if_pos h2, List.getElem?_set, if_neg (by omega)]
        have := Kind.row_get (K := K) ps i hi (k - i * K.size) (by omega)
        rw [show i * K.size + (k - i * K.size) = k by omega] at this
        exact this
      · rw [if_neg h2]
  · rw [List.getElem?_eq_none (by simp; omega), List.getElem?_eq_none (by rw [setFrom_length]; omega)]

theorem foot_set (ps : List P) (i : Nat) (hi : i < ps.length) (p : P) (hf : K.foot p = K.foot ps[i]) : (ps.set i p).flatMap K.foot = ps.flatMap K.foot := by
  induction ps generalizing i with
  | nil => simp at hi
  | cons q r ih =>
    cases i with
    | zero => simp only [List.set_cons_zero, List.flatMap_cons, hf, List.getElem_cons_zero]
    | succ i => simp only [List.set_cons_succ, List.flatMap_cons, ih i (by simpa using hi) (by simpa using hf)]
theorem Kind.fp_set (v : Value) (ps : List P) (i : Nat) (hi : i < ps.length) (p : P) (hf : K.foot p = K.foot ps[i]) : K.fp v (ps.set i p) = K.fp v ps := by
  simp only [Kind.fp, foot_set ps i hi p hf]
theorem foot_apart {ps : List P} (h : (ps.flatMap K.foot).Nodup) (i : Nat) (hi : i < ps.length) (j : Nat) (hj : j < ps.length) (hne : i ≠ j) : ∀ k ∈ K.foot ps[j], k ∉ K.foot ps[i] := by
  induction ps generalizing i j with
  | nil => simp at hi
  | cons p r ih =>
    rw [List.flatMap_cons, List.nodup_append] at h
    obtain ⟨_, h2, h3⟩ := h
    intro k hk hk2
    cases i with
    | zero =>
      cases j with
      | zero => exact hne rfl
      | succ j =>
        simp only [List.getElem_cons_succ, List.getElem_cons_zero] at hk hk2
        exact h3 k hk2 k (List.mem_flatMap.2 ⟨_, List.getElem_mem (by simpa using hj), hk⟩) rfl
    | succ i =>
      cases j with
      | zero =>
        simp only [List.getElem_cons_succ, List.getElem_cons_zero] at hk hk2
        exact h3 k hk k (List.mem_flatMap.2 ⟨_, List.getElem_mem (by simpa using hi), hk2⟩) rfl
      | succ j =>
        simp only [List.getElem_cons_succ] at hk hk2
        exact ih h2 i (by simpa using hi) j (by simpa using hj) (by omega) k hk hk2
/-- One element is written over, its blocks and its other cells as they were. -/
theorem Kind.Own.store {g n cap : Nat} (h : K.Own w (.slice (some ⟨g, 0, none⟩) n cap) ps) (hnd : (K.fp (.slice (some ⟨g, 0, none⟩) n cap) ps).Nodup) (i : Nat) (hi : i < ps.length) (p : P) (j : Nat) (u : Value) (hj : j < K.size)
    (hc : K.cells p = (K.cells ps[i]).set j u) (hf : K.foot p = K.foot ps[i]) (hown : ∀ w', K.own w' ps[i] → K.own w' p) :
    K.Own (w.setCell ⟨g, i * K.size + j, none⟩ u) (.slice (some ⟨g, 0, none⟩) n cap) (ps.set i p) ∧ K.fp (.slice (some ⟨g, 0, none⟩) n cap) (ps.set i p) = K.fp (.slice (some ⟨g, 0, none⟩) n cap) ps := by
  obtain ⟨a', c, e⟩ := h.shape
  simp only [Value.slice.injEq] at e
  obtain ⟨_, rfl, _⟩ := e
  refine ⟨⟨?_, ?_⟩, Kind.fp_set _ ps i hi p hf⟩
  · have h1 := (h.1.stored (i * K.size + j) u).1
    rw [Kind.row_store ps i hi p j u hc hj] at h1
    rw [List.length_set]
    exact h1
  · have hg : ∀ q ∈ ps, ∀ k ∈ K.foot q, k ∉ [g] := by
      intro q hq k hk
      simp only [Kind.fp, blk, Value.ownBlock, Option.toList, List.cons_append, List.nil_append, List.nodup_cons] at hnd
      simp only [List.mem_singleton]
      rintro rfl
      exact hnd.1 (List.mem_flatMap.2 ⟨q, hq, hk⟩)
    have hall : ∀ q ∈ ps, K.own (w.setCell ⟨g, i * K.size + j, none⟩ u) q := fun q hq => K.own_out (h.2 q hq) (Out.setCell w g _ u) (hg q hq)
    intro q hq
    rcases List.mem_or_eq_of_mem_set hq with hq | rfl
    · exact hall q hq
    · exact hown _ (hall _ (List.getElem_mem hi))
/-- What lies beneath one element turns. -/
theorem Kind.Own.turn (h : K.Own w v ps) (hnd : (K.fp v ps).Nodup) (i : Nat) (hi : i < ps.length) (p : P) {F : List Nat} (ho : Out F w w') (hF : ∀ k ∈ F, k ∈ K.foot ps[i])
    (hc : K.cells p = K.cells ps[i]) (hf : K.foot p = K.foot ps[i]) (hown : K.own w' p) : K.Own w' v (ps.set i p) ∧ K.fp v (ps.set i p) = K.fp v ps := by
  have hnd2 := hnd
  simp only [Kind.fp] at hnd2
  rw [List.nodup_append] at hnd2
  refine ⟨⟨?_, ?_⟩, Kind.fp_set _ ps i hi p hf⟩
  · have e : K.row (ps.set i p) = K.row ps := by
      rw [← Kind.row_put ps i hi p, hc, Kind.row_put ps i hi ps[i], List.set_getElem_self]
    rw [e, List.length_set]
    refine own_outs h.1 ho (fun k hk hkF => ?_)
    exact hnd2.2.2 k hk k (List.mem_flatMap.2 ⟨ps[i], List.getElem_mem hi, hF k hkF⟩) rfl
  · intro q hq
    obtain ⟨j, hj, rfl⟩ := List.getElem_of_mem hq
    rw [List.length_set] at hj
    by_cases hij : i = j
    · subst hij
      rw [List.getElem_set_self]
      exact hown
    · rw [List.getElem_set_ne hij]
      exact K.own_out (h.2 _ (List.getElem_mem hj)) ho (fun k hk hkF => foot_apart hnd2.2.1 i hi j hj hij k hk (hF k hkF))
/-- A whole element is written over by a new one. -/
theorem Kind.Own.put {g n cap : Nat} (h : K.Own w (.slice (some ⟨g, 0, none⟩) n cap) ps) (i : Nat) (hi : i < ps.length) (p : P) (hrow : w'.ownsRow 0 K.ty K.size (.slice (some ⟨g, 0, none⟩) n cap) ps.length (setFrom (K.row ps) (i * K.size) (K.cells p)))
    (ho : Out [g] w w') (hg : ∀ q ∈ ps, ∀ k ∈ K.foot q, k ≠ g) (hown : K.own w p) (hp : ∀ k ∈ K.foot p, k ≠ g) : K.Own w' (.slice (some ⟨g, 0, none⟩) n cap) (ps.set i p) := by
  rw [Kind.row_put ps i hi p] at hrow
  refine ⟨by rw [List.length_set]; exact hrow, fun q hq => ?_⟩
  rcases List.mem_or_eq_of_mem_set hq with hq | rfl
  · exact K.own_out (h.2 q hq) ho (fun k hk => by simpa using hg q hq k hk)
  · exact K.own_out hown ho (fun k hk => by simpa using hp k hk)

/-- Marks: from c on, element by element. -/
def mkL (mk : Int → P → P) (nm : P → Nat) : Int → List P → List P
  | _, [] => []
  | c, p :: r => mk c p :: mkL mk nm (c + nm p) r
def nmL (nm : P → Nat) (ps : List P) : Nat := (ps.map nm).sum
theorem mkL_length (mk : Int → P → P) (nm : P → Nat) (c : Int) (ps : List P) : (mkL mk nm c ps).length = ps.length := by
  induction ps generalizing c with
  | nil => rfl
  | cons p r ih => simp [mkL, ih]
theorem nmL_succ (nm : P → Nat) (ps : List P) (k : Nat) (h : k < ps.length) : nmL nm (ps.take (k + 1)) = nmL nm (ps.take k) + nm ps[k] := by
  rw [List.take_succ_eq_append_getElem h]
  simp only [nmL, List.map_append, List.map_cons, List.map_nil, List.sum_append, List.sum_cons, List.sum_nil, Nat.add_zero]
theorem nmL_le (nm : P → Nat) (ps : List P) (k : Nat) : nmL nm (ps.take k) ≤ nmL nm ps := by
  have e : nmL nm ps = nmL nm (ps.take k) + nmL nm (ps.drop k) := by
    conv => lhs; rw [← List.take_append_drop k ps]
    simp only [nmL, List.map_append, List.sum_append]
  omega
theorem mkL_get (mk : Int → P → P) (nm : P → Nat) (c : Int) (ps : List P) (k : Nat) (h : k < ps.length) : (mkL mk nm c ps)[k]'(by rw [mkL_length]; exact h) = mk (c + nmL nm (ps.take k)) ps[k] := by
  induction ps generalizing c k with
  | nil => simp at h
  | cons p r ih =>
    cases k with
    | zero => simp [mkL, nmL]
    | succ k =>
      simp only [mkL, List.getElem_cons_succ, List.take_succ_cons]
      rw [ih (c + nm p) k (by simpa using h)]
      congr 1
      simp only [nmL, List.map_cons, List.sum_cons]
      omega
/-- The first k elements marked. -/
def half (mk : Int → P → P) (nm : P → Nat) (c : Int) (ps : List P) (k : Nat) : List P := (mkL mk nm c ps).take k ++ ps.drop k
theorem half_zero (mk : Int → P → P) (nm : P → Nat) (c : Int) (ps : List P) : half mk nm c ps 0 = ps := by simp [half]
theorem half_all (mk : Int → P → P) (nm : P → Nat) (c : Int) (ps : List P) : half mk nm c ps ps.length = mkL mk nm c ps := by
  have := mkL_length mk nm c ps
  simp [half, List.take_of_length_le (show (mkL mk nm c ps).length ≤ ps.length by omega)]
theorem half_length (mk : Int → P → P) (nm : P → Nat) (c : Int) (ps : List P) (k : Nat) (hk : k ≤ ps.length) : (half mk nm c ps k).length = ps.length := by
  have := mkL_length mk nm c ps
  simp [half]
  omega
theorem half_get (mk : Int → P → P) (nm : P → Nat) (c : Int) (ps : List P) (k : Nat) (hk : k < ps.length) : (half mk nm c ps k)[k]'(by rw [half_length _ _ _ _ _ (by omega)]; exact hk) = ps[k] := by
  have := mkL_length mk nm c ps
  simp only [half]
  rw [List.getElem_append_right (by simp; omega)]
  simp only [List.length_take, this, List.getElem_drop]
  congr 1
  omega
theorem half_set (mk : Int → P → P) (nm : P → Nat) (c : Int) (ps : List P) (k : Nat) (hk : k < ps.length) : (half mk nm c ps k).set k (mk (c + nmL nm (ps.take k)) ps[k]) = half mk nm c ps (k + 1) := by
  have hm := mkL_length mk nm c ps
  rw [← mkL_get mk nm c ps k hk]
  simp only [half]
  rw [List.set_append_right _ _ (by simp; omega), show k - ((mkL mk nm c ps).take k).length = 0 by simp; omega, List.drop_eq_getElem_cons hk, List.set_cons_zero, List.take_succ_eq_append_getElem (show k < (mkL mk nm c ps).length by omega), List.append_assoc]
  rfl

end

end Go.Proofs.YtmlkfmjenkcflaaGreatDoor

/- Lists of elements that are laid anew: where they begin, and one element after another put in. No condition. -/
namespace Go.Proofs.YtmlkfmjenkcflaaGreatDoor
open Go.RowKit
set_option linter.unusedVariables false
set_option maxRecDepth 100000
set_option linter.unusedSimpArgs false

section
variable {P : Type} {K : Kind P} {w w' : World} {v : Value} {ps : List P}

theorem made_row (z : P) (n : Nat) (hs : 0 < K.size) : (madeCells (K.cells z).toArray (n * K.size)).toList = K.row (List.replicate n z) := by
  have hl := Kind.row_length (K := K) (List.replicate n z)
  rw [List.length_replicate] at hl
  apply List.ext_getElem?
  intro j
  by_cases hj : j < n * K.size
  · have hm := Nat.mod_lt j hs
    have hq : j / K.size < n := Nat.div_lt_of_lt_mul (by rw [Nat.mul_comm]; exact hj)
    have e : j = j / K.size * K.size + j % K.size := by rw [Nat.mul_comm]; exact (Nat.div_add_mod j K.size).symm
    have e2 := Kind.row_get (K := K) (List.replicate n z) (j / K.size) (by simpa using hq) (j % K.size) hm
    rw [← e] at e2
    rw [e2]
    have hz : (K.cells z).length = K.size := K.len z
    simp only [madeCells, Array.toList_map, Array.toList_range, List.getElem?_map, List.getElem?_range hj, Option.map_some, List.size_toArray, hz, List.getElem_replicate]
    rw [List.getElem!_toArray, List.getElem?_eq_getElem (by omega), getElem!_pos (K.cells z) (j % K.size) (by omega)]
  · rw [List.getElem?_eq_none (by simp [size_madeCells]; omega), List.getElem?_eq_none (by omega)]

theorem fp_new {z : P} {n g cap : Nat} (hz : K.foot z = []) : K.fp (.slice (some ⟨g, 0, none⟩) n cap) (List.replicate n z) = [g] := by
  have : (List.replicate n z).flatMap K.foot = [] := by
    rw [List.flatMap_eq_nil_iff]
    intro x hx
    rw [(List.mem_replicate.1 hx).2, hz]
  simp [Kind.fp, blk, Value.ownBlock, this]
theorem set_split (ps : List P) (i : Nat) (hi : i < ps.length) (p : P) : ps.set i p = ps.take i ++ p :: ps.drop (i + 1) := by
  rw [List.set_eq_take_append_cons_drop, if_pos hi]
theorem mem_foot_set {ps : List P} {i : Nat} (hi : i < ps.length) {p : P} {k : Nat} (h : k ∈ (ps.set i p).flatMap K.foot) : k ∈ ps.flatMap K.foot ∨ k ∈ K.foot p := by
  obtain ⟨q, hq, hk⟩ := List.mem_flatMap.1 h
  rcases List.mem_or_eq_of_mem_set hq with hq | rfl
  · exact Or.inl (List.mem_flatMap.2 ⟨q, hq, hk⟩)
  · exact Or.inr hk
theorem nodup_put {ps : List P} (h : (K.fp v ps).Nodup) (i : Nat) (hi : i < ps.length) (p : P) (h0 : K.foot ps[i] = []) (hp : (K.foot p).Nodup) (hd : ∀ k ∈ K.foot p, k ∉ K.fp v ps) : (K.fp v (ps.set i p)).Nodup := by
  have e : ps = ps.take i ++ ps[i] :: ps.drop (i + 1) := by
    conv => lhs; rw [← List.take_append_drop i ps, List.drop_eq_getElem_cons hi]
  have hA : K.fp v ps = blk v ++ ((ps.take i).flatMap K.foot ++ (ps.drop (i + 1)).flatMap K.foot) := by
    conv => lhs; rw [e]
    simp only [Kind.fp, List.flatMap_append, List.flatMap_cons, h0, List.nil_append]
  rw [hA] at h hd
  simp only [Kind.fp]
  rw [set_split ps i hi p]
  simp only [List.flatMap_append, List.flatMap_cons]
  generalize blk v = A at *
  generalize (ps.take i).flatMap K.foot = B at *
  generalize (ps.drop (i + 1)).flatMap K.foot = C at *
  generalize K.foot p = D at *
  simp only [List.nodup_append, List.mem_append] at h hd ⊢
  obtain ⟨hA1, ⟨hB1, hC1, hBC⟩, hABC⟩ := h
  refine ⟨hA1, ⟨hB1, ⟨hp, hC1, ?_⟩, ?_⟩, ?_⟩
  · rintro a ha b hb rfl
    exact hd a ha (Or.inr (Or.inr hb))
  · rintro a ha b (hb | hb) rfl
    · exact hd a hb (Or.inr (Or.inl ha))
    · exact hBC a ha a hb rfl
  · rintro a ha b (hb | hb | hb) rfl
    · exact hABC a ha a (Or.inl hb) rfl
    · exact hd a hb (Or.inl ha)
    · exact hABC a ha a (Or.inr hb) rfl

section
variable {g n cap k : Nat} {hs : List P} {p : P}
theorem Kind.Own.elem' (h : K.Own w v (hs.set k p)) (hk : k < hs.length) : K.own w p := h.2 p (List.mem_set hk p)
theorem Kind.Own.cell' (h : K.Own w (.slice (some ⟨g, 0, none⟩) n cap) (hs.set k p)) (hk : k < hs.length) (j : Nat) (x : Value) (hx : (K.cells p)[j]? = some x) : w.cell? ⟨g, k * K.size + j, none⟩ = some x ∧ w.frozen? ⟨g, k * K.size + j, none⟩ = false :=
  h.cell k (by simpa using hk) j x (by rw [List.getElem_set_self]; exact hx)
theorem Kind.Own.store' (h : K.Own w (.slice (some ⟨g, 0, none⟩) n cap) (hs.set k p)) (hnd : (K.fp (.slice (some ⟨g, 0, none⟩) n cap) (hs.set k p)).Nodup) (hk : k < hs.length) (p' : P) (j : Nat) (u : Value) (hj : j < K.size)
    (hc : K.cells p' = (K.cells p).set j u) (hf : K.foot p' = K.foot p) (hown : ∀ w', K.own w' p → K.own w' p') :
    K.Own (w.setCell ⟨g, k * K.size + j, none⟩ u) (.slice (some ⟨g, 0, none⟩) n cap) (hs.set k p') ∧ (K.fp (.slice (some ⟨g, 0, none⟩) n cap) (hs.set k p')).Nodup := by
  have hk' : k < (hs.set k p).length := by simpa using hk
  have e : (hs.set k p)[k] = p := List.getElem_set_self (h := hk')
  obtain ⟨h1, h2⟩ := h.store hnd k hk' p' j u hj (by rw [e]; exact hc) (by rw [e]; exact hf) (by rw [e]; exact hown)
  rw [List.set_set] at h1 h2
  exact ⟨h1, by rw [h2]; exact hnd⟩
theorem Kind.Own.turn' (h : K.Own w v (hs.set k p)) (hnd : (K.fp v (hs.set k p)).Nodup) (hk : k < hs.length) (p' : P) {F : List Nat} (ho : Out F w w') (hF : ∀ x ∈ F, x ∈ K.foot p) (hc : K.cells p' = K.cells p) (hf : K.foot p' = K.foot p) (hown : K.own w' p') :
    K.Own w' v (hs.set k p') ∧ (K.fp v (hs.set k p')).Nodup := by
  have hk' : k < (hs.set k p).length := by simpa using hk
  have e : (hs.set k p)[k] = p := List.getElem_set_self (h := hk')
  obtain ⟨h1, h2⟩ := h.turn hnd k hk' p' ho (by rw [e]; exact hF) (by rw [e]; exact hc) (by rw [e]; exact hf) hown
  rw [List.set_set] at h1 h2
  exact ⟨h1, by rw [h2]; exact hnd⟩
end
theorem foot_mkL {mk : Int → P → P} {nm : P → Nat} (hf : ∀ c p, K.foot (mk c p) = K.foot p) (c : Int) (ps : List P) : (mkL mk nm c ps).flatMap K.foot = ps.flatMap K.foot := by
  induction ps generalizing c with
  | nil => rfl
  | cons p r ih => simp only [mkL, List.flatMap_cons, hf, ih]
theorem fp_mkL {mk : Int → P → P} {nm : P → Nat} (hf : ∀ c p, K.foot (mk c p) = K.foot p) (v : Value) (c : Int) (ps : List P) : K.fp v (mkL mk nm c ps) = K.fp v ps := by simp only [Kind.fp, foot_mkL hf]
theorem fp_half {mk : Int → P → P} {nm : P → Nat} (hf : ∀ c p, K.foot (mk c p) = K.foot p) (v : Value) (c : Int) (ps : List P) (k : Nat) : K.fp v (half mk nm c ps k) = K.fp v ps := by
  have h1 : ((mkL mk nm c ps).take k).flatMap K.foot = (ps.take k).flatMap K.foot := by
    have e : (mkL mk nm c ps).take k = mkL mk nm c (ps.take k) := by
      induction ps generalizing c k with
      | nil => simp [mkL]
      | cons p r ih =>
        cases k with
        | zero => simp [mkL]
        | succ k => simp only [mkL, List.take_succ_cons, ih]
    rw [e, foot_mkL hf]
  simp only [Kind.fp, half, List.flatMap_append, h1]
  rw [← List.flatMap_append, List.take_append_drop]

end

theorem Out.set {F : List Nat} {w W : World} {b j : Nat} {u : Value} (h : Out F w W) (hb : b ∈ F) : Out F w (W.setCell ⟨b, j, none⟩ u) := h.trans ((Out.setCell W b j u).mono (fun k hk => by simp only [List.mem_singleton] at hk; rw [hk]; exact hb))
theorem Out.call {F : List Nat} {w W W' : World} (h : Out F w W) (hb : Below W.heap.size W W') : Out F w W' := h.trans (Out.of_below hb)
theorem Below.call {B : Nat} {w W W' : World} (h : Below B w W) (hs : B ≤ W.heap.size) (hb : Below W.heap.size W W') : Below B w W' := h.trans (hb.mono hs)
/-- A row of cells is written over, place by place. -/
theorem own_setFrom {w : World} {base e s g n cap : Nat} {xs : List Value} (h : w.ownsRow base e s (.slice (some ⟨g, 0, none⟩) n cap) n xs) (o : Nat) (ys : List Value) :
    (ys.zipIdx.foldl (fun w (y : Value × Nat) => w.setCell ⟨g, o + y.2, none⟩ y.1) w).ownsRow base e s (.slice (some ⟨g, 0, none⟩) n cap) n (setFrom xs o ys) := by
  suffices H : ∀ (ys : List Value) (w : World) (xs : List Value) (d : Nat), w.ownsRow base e s (.slice (some ⟨g, 0, none⟩) n cap) n xs → ((ys.zipIdx d).foldl (fun w (y : Value × Nat) => w.setCell ⟨g, o + y.2, none⟩ y.1) w).ownsRow base e s (.slice (some ⟨g, 0, none⟩) n cap) n (setFrom xs (o + d) ys) from H ys w xs 0 h
  intro ys
  induction ys with
  | nil => intro w xs d h; exact h
  | cons y ys ih =>
    intro w xs d h
    have := ih (w.setCell ⟨g, o + d, none⟩ y) (xs.set (o + d) y) (d + 1) (h.stored (o + d) y).1
    simpa [List.zipIdx_cons, setFrom, Nat.add_assoc] using this

end Go.Proofs.YtmlkfmjenkcflaaGreatDoor

/- Lists of transactions as plain data; what the helpers of the laws do with them: count, copy, compare, mark. -/
namespace Go.Proofs.YtmlkfmjenkcflaaGreatDoor
open Go.RowKit
open Go.BigFrame
set_option linter.unusedVariables false
set_option maxRecDepth 100000
set_option linter.unusedSimpArgs false

structure TxnD where
  id : Int
  session : Int
  seq : Int
  acts : List ActD
def txnNo : TxnD := ⟨0, 0, 0, []⟩

/-- A transaction, and where its acts lie. -/
structure TxnP where
  d : TxnD
  a : Option Addr
  cap : Nat
def TxnP.sl (p : TxnP) : Value := .slice p.a p.d.acts.length p.cap
def TxnP.cells (p : TxnP) : List Value := [.int .i64 p.d.id, .int .i64 p.d.session, .int .i64 p.d.seq, p.sl]
def txnCells (ps : List TxnP) : List Value := ps.flatMap TxnP.cells
def txnPNo : TxnP := ⟨txnNo, none, 0⟩

theorem txnCells_length (ps : List TxnP) : (txnCells ps).length = ps.length * 4 := by
  induction ps with
  | nil => rfl
  | cons x xs ih => simp only [txnCells, List.flatMap_cons, List.length_append, List.length_cons] at ih ⊢; rw [ih]; simp [TxnP.cells]; omega

theorem txnCells_get (ps : List TxnP) : ∀ (i : Nat), i < ps.length → (txnCells ps)[i * 4]? = some (.int .i64 (ps.getD i txnPNo).d.id) ∧ (txnCells ps)[i * 4 + 1]? = some (.int .i64 (ps.getD i txnPNo).d.session) ∧ (txnCells ps)[i * 4 + 2]? = some (.int .i64 (ps.getD i txnPNo).d.seq) ∧ (txnCells ps)[i * 4 + 3]? = some (ps.getD i txnPNo).sl := by
  induction ps with
  | nil => intro i h; simp at h
  | cons x xs ih =>
    intro i h
    cases i with
    | zero => simp [txnCells, TxnP.cells]
    | succ i =>
      have e : txnCells (x :: xs) = x.cells ++ txnCells xs := rfl
      have hl : x.cells.length = 4 := rfl
      obtain ⟨h1, h2, h3, h4⟩ := ih i (by simpa using h)
      rw [e, List.getElem?_append_right (by omega), List.getElem?_append_right (by omega), List.getElem?_append_right (by omega), List.getElem?_append_right (by omega), hl, show (i + 1) * 4 - 4 = i * 4 by omega, show (i + 1) * 4 + 1 - 4 = i * 4 + 1 by omega, show (i + 1) * 4 + 2 - 4 = i * 4 + 2 by omega, show (i + 1) * 4 + 3 - 4 = i * 4 + 3 by omega]
      simpa [List.getD] using ⟨h1, h2, h3, h4⟩

/-- v is a slice that reads as these transactions. -/
def TxnsAt (w : World) (v : Value) (ds : List TxnD) : Prop :=
  ∃ a cap ps, v = .slice a ds.length cap ∧ ps.map TxnP.d = ds ∧ Lies w a (txnCells ps) ∧ ∀ p ∈ ps, ActRow w p.a p.d.acts

theorem TxnsAt.below {w w' : World} {v : Value} {ds : List TxnD} (h : TxnsAt w v ds) (hb : Below w.heap.size w w') : TxnsAt w' v ds := by
  obtain ⟨a, cap, ps, e, hd, hL, hA⟩ := h
  exact ⟨a, cap, ps, e, hd, hL.below hb, fun p hp => (hA p hp).below hb⟩

theorem TxnsAt.shape {w : World} {v : Value} {ds : List TxnD} (h : TxnsAt w v ds) : ∃ a cap, v = .slice a ds.length cap := by
  obtain ⟨a, cap, _, e, _⟩ := h
  exact ⟨a, cap, e⟩

theorem TxnsAt.at {w : World} {a : Option Addr} {n cap : Nat} {ds : List TxnD} (h : TxnsAt w (.slice a n cap) ds) (i : Nat) (hi : i < ds.length) :
    ∃ b off aa cc, a = some ⟨b, off, none⟩ ∧ b < w.heap.size ∧ w.cell? ⟨b, off + i * 4, none⟩ = some (.int .i64 (ds.getD i txnNo).id) ∧ w.cell? ⟨b, off + i * 4 + 1, none⟩ = some (.int .i64 (ds.getD i txnNo).session) ∧ w.cell? ⟨b, off + i * 4 + 2, none⟩ = some (.int .i64 (ds.getD i txnNo).seq) ∧
      w.cell? ⟨b, off + i * 4 + 3, none⟩ = some (.slice aa (ds.getD i txnNo).acts.length cc) ∧ ActRow w aa (ds.getD i txnNo).acts := by
  obtain ⟨a', cap', ps, e, hd, hL, hA⟩ := h
  simp only [Value.slice.injEq] at e
  obtain ⟨rfl, _, _⟩ := e
  have hl : ps.length = ds.length := by rw [← hd]; simp
  obtain ⟨h1, h2, h3, h4⟩ := txnCells_get ps i (by omega)
  have hp : (ps.getD i txnPNo).d = ds.getD i txnNo := by
    rw [← hd]
    simp [List.getD, show i < ps.length by omega]
  have hm : ps.getD i txnPNo ∈ ps := by simp [List.getD, show i < ps.length by omega]
  rcases hL with h | ⟨b, off, ha, hlt, hc⟩
  · have := txnCells_length ps
    rw [h] at this
    simp at this
    omega
  · have hAA := hA _ hm
    rw [hp] at hAA h1 h2 h3
    refine ⟨b, off, (ps.getD i txnPNo).a, (ps.getD i txnPNo).cap, ha, hlt, hc _ _ h1, by rw [Nat.add_assoc]; exact hc _ _ h2, by rw [Nat.add_assoc]; exact hc _ _ h3, ?_, hAA⟩
    rw [Nat.add_assoc, hc _ _ h4]
    simp only [TxnP.sl, hp]

/-- v is a slice of transactions, all of whose memory lies in blocks from lo up to hi, and is its own. -/
def OwnTxns (lo hi : Nat) (w : World) (v : Value) (ds : List TxnD) : Prop :=
  ∃ g cap ps, v = .slice (some ⟨g, 0, none⟩) ds.length cap ∧ g < hi ∧ ps.map TxnP.d = ds ∧ w.ownsRow lo 65 4 (.slice (some ⟨g, 0, none⟩) ds.length cap) ds.length (txnCells ps) ∧
    ∀ p ∈ ps, w.ownsRow lo 105 3 p.sl p.d.acts.length (actCells p.d.acts) ∧ ∀ k, p.sl.ownBlock = some k → k < hi ∧ k ≠ g

-- 65
theorem OwnTxns.row {lo hi : Nat} {w : World} {v : Value} {ds : List TxnD} (h : OwnTxns lo hi w v ds) : TxnsAt w v ds := by
  obtain ⟨g, cap, ps, e, _, hd, ho, hp⟩ := h
  exact ⟨_, cap, ps, e, hd, Lies.own ho, fun p hm => Lies.own (hp p hm).1⟩

-- 65
theorem OwnTxns.below {lo hi : Nat} {w w' : World} {v : Value} {ds : List TxnD} (h : OwnTxns lo hi w v ds) (hb : Below w.heap.size w w') : OwnTxns lo hi w' v ds := by
  obtain ⟨g, cap, ps, e, hg, hd, ho, hp⟩ := h
  exact ⟨g, cap, ps, e, hg, hd, own_below ho hb, fun p hm => ⟨own_below (hp p hm).1 hb, (hp p hm).2⟩⟩

def sumA (ds : List TxnD) : Nat := (ds.map (fun d => d.acts.length)).sum
theorem sumA_take_succ (ds : List TxnD) (k : Nat) (h : k < ds.length) : sumA (ds.take (k + 1)) = sumA (ds.take k) + (ds.getD k txnNo).acts.length := by
  have e : ds.getD k txnNo = ds[k] := by simp [List.getD, h]
  rw [List.take_succ_eq_append_getElem h, e]
  simp only [sumA, List.map_append, List.map_cons, List.map_nil, List.sum_append, List.sum_cons, List.sum_nil, Nat.add_zero]
theorem sumA_take_le (ds : List TxnD) (k : Nat) : sumA (ds.take k) ≤ sumA ds := by
  have e : sumA ds = sumA (ds.take k) + sumA (ds.drop k) := by
    conv => lhs; rw [← List.take_append_drop k ds]
    simp only [sumA, List.map_append, List.sum_append]
  omega
theorem mem_le_sumA {ds : List TxnD} {d : TxnD} (h : d ∈ ds) : d.acts.length ≤ sumA ds := by
  induction ds with
  | nil => simp at h
  | cons x r ih =>
    simp only [sumA, List.map_cons, List.sum_cons] at ih ⊢
    rcases List.mem_cons.1 h with rfl | h
    · omega
    · have := ih h; omega

set_option maxHeartbeats 1000000 in
theorem szTxnS_any (v : Value) (ds : List TxnD) (c : Int) (w : World) (h : TxnsAt w v ds) (hn : ds.length ≤ 9223372036854775807) (hn1 : ∀ d ∈ ds, d.acts.length ≤ 9223372036854775807) (h0 : 0 ≤ c) (h1 : c ≤ 1048576) :
    Calls Tryz.prog 9 #[v, .int .i64 c] w fun e w' => ∃ r, e = .returned (.int .i64 r) ∧ (0 ≤ r → ds.length + sumA ds + r = c) ∧ Below w.heap.size w w' := by
  obtain ⟨a, cap, rfl⟩ := h.shape
  by_cases hbig : c - ds.length < 0
  · go_enter Tryz.func9, Tryz.ntmps9
    go_wp2
    go_ret
    exact ⟨_, rfl, fun h => by omega, Below.refl _ _⟩
  · go_enter Tryz.func9, Tryz.ntmps9
    go_wp2
    go_loopw [1, 5] (fun l i wr => ∃ (k : Nat) (x : Int), k ≤ ds.length ∧ i = .int .i64 k ∧ l = .int .i64 x ∧ 0 ≤ x ∧ x ≤ 1048576 ∧ Hid (ds.length + sumA (ds.take k) + x = c) ∧ Below w.heap.size w wr) (fun _ i _ => ds.length - (intOf i).toNat)
    case atStart => exact ⟨0, c - ds.length, Nat.zero_le _, rfl, by go_num, by omega, by omega, show _ = _ by simp [sumA]; omega, Below.refl _ _⟩
    case round =>
      obtain ⟨k, x, hk, rfl, rfl, hx0, hx1, HS, hb⟩ := hrel
      by_cases hlt : k < ds.length
      · obtain ⟨b, off, aa, cc, rfl, hbs, e0, e1, e2, e3, hA⟩ := (h.below hb).at k hlt
        have hs := sumA_take_succ ds k hlt
        have HN : (ds.getD k txnNo).acts.length ≤ 9223372036854775807 := hn1 _ (by simp [List.getD, hlt])
        have HS' : Hid (x - (ds.getD k txnNo).acts.length ≥ 0 → ds.length + sumA (ds.take (k + 1)) + (x - (ds.getD k txnNo).acts.length) = c) := by
          intro _
          have := HS.out
          omega
        clear HS hs hA
        generalize ds.getD k txnNo = z at e0 e1 e2 e3 HN HS'
        obtain ⟨z0, z1, z2, zs⟩ := z
        dsimp only at e0 e1 e2 e3 HN HS'
        by_cases hneg : x - zs.length < 0
        · go_wp2_with fail
          refine (szTxn_any z0 z1 z2 aa zs.length cc x _ HN hx0 (by omega)).mono ?_
          rintro e w2 ⟨rfl, hb2⟩
          rw [if_pos (by omega)]
          go_wp2
          go_ret
          exact ⟨_, rfl, fun h => by omega, below_from hb hb2⟩
        · go_wp2_with fail
          refine (szTxn_any z0 z1 z2 aa zs.length cc x _ HN hx0 (by omega)).mono ?_
          rintro e w2 ⟨rfl, hb2⟩
          rw [if_neg (by omega)]
          generalize hy : x - (zs.length : Int) = y at hneg HS'
          have hy1 : y ≤ 1048576 := by omega
          clear hy
          go_wp2
          go_roundw
          case rel => exact ⟨k + 1, y, by omega, by go_num, rfl, by omega, by omega, HS'.out (by omega), below_from hb hb2⟩
          case measure => simp [intOf]; omega
      · have hkl : k = ds.length := by omega
        subst hkl
        rw [List.take_length] at HS
        go_wp2
        go_ret
        exact ⟨_, rfl, fun _ => HS.out, hb⟩

set_option maxHeartbeats 2000000 in
theorem eqTxnS_true (v v' : Value) (ds : List TxnD) (w : World) (h : TxnsAt w v ds) (h' : TxnsAt w v' ds) (hl : ds.length + sumA ds ≤ 1048576) :
    Calls Tryz.prog 21 #[v, v'] w fun e w' => e = .returned (.bool true) ∧ Below w.heap.size w w' := by
  obtain ⟨a, cap, rfl⟩ := h.shape
  obtain ⟨a', cap', rfl⟩ := h'.shape
  go_enter Tryz.func21, Tryz.ntmps21
  go_wp2
  go_loopw [5] (fun i wr => ∃ k : Nat, k ≤ ds.length ∧ i = .int .i64 k ∧ Below w.heap.size w wr) (fun i _ => ds.length - (intOf i).toNat)
  case atStart => exact ⟨0, Nat.zero_le _, rfl, Below.refl _ _⟩
  case round =>
    obtain ⟨k, hk, rfl, hb⟩ := hrel
    by_cases hlt : k < ds.length
    · obtain ⟨b, off, aa, cc, rfl, hbs, hc0, hc1, hc2, hc3, hA⟩ := (h.below hb).at k hlt
      obtain ⟨b', off', aa', cc', rfl, hbs', hd0, hd1, hd2, hd3, hA'⟩ := (h'.below hb).at k hlt
      have hzl : (ds.getD k txnNo).acts.length ≤ sumA ds := mem_le_sumA (by simp [List.getD, hlt])
      generalize ds.getD k txnNo = z at hc0 hc1 hc2 hc3 hd0 hd1 hd2 hd3 hA hA' hzl
      obtain ⟨z0, z1, z2, zs⟩ := z
      dsimp only at hc0 hc1 hc2 hc3 hd0 hd1 hd2 hd3 hA hA' hzl
      have k0 := lat_cell hc0
      have k1 := lat_cell hc1
      have k2 := lat_cell hc2
      have k3 := lat_cell hc3
      have l0 := lat_cell hd0
      have l1 := lat_cell hd1
      have l2 := lat_cell hd2
      have l3 := lat_cell hd3
      clear hc0 hc1 hc2 hc3 hd0 hd1 hd2 hd3
      have hW : Below wr.heap.size wr wr.drew := (Below.refl _ _).drew
      have hne : Nonempty (Lat wr) := ⟨⟨wr, Below.refl _ _⟩⟩
      go_wp2_with fail
      refine text_begin (S := fun w' => ∃ u : Lat wr, w' = u.val) (by kernel_rfl) ?_
      refine sgr [(0, 8)] 2 (by kernel_rfl) ⟨⟨_, hW⟩, rfl⟩ ?_
      simp only [pkE]
      repeat go_big_quiet_step (fail)
      refine wpQuiet_nil ?_
      refine cla 8 (some 25) 35 #[.agg #[.int .i64 z0, .int .i64 z1, .int .i64 z2, .slice aa zs.length cc], .agg #[.int .i64 z0, .int .i64 z1, .int .i64 z2, .slice aa' zs.length cc']] 1 (by kernel_rfl) ?_
      refine (eqTxn_true z0 z1 z2 aa aa' cc cc' zs _ (hA.below hW) (hA'.below hW) (by omega)).mono ?_
      rintro e w2 ⟨rfl, hb2⟩
      replace hW := hW.trans (hb2.mono hW.size)
      clear hb2
      refine ⟨_, rfl, ⟨⟨_, hW⟩, rfl⟩, ?_⟩
      simp only [Act.put, pjE]
      refine sgr [(9, 1)] 0 (by kernel_rfl) ⟨⟨_, hW⟩, rfl⟩ ?_
      simp only [pkE]
      repeat go_big_quiet_step (fail)
      refine wpQuiet_nil ?_
      refine text_end (by kernel_rfl) ?_
      replace hb := hb.trans (hW.mono hb.size)
      clear k0 k1 k2 k3 l0 l1 l2 l3 hW hne hA hA'
      go_wp2
      go_roundw
      case rel => exact ⟨k + 1, by omega, by go_num, hb⟩
      case measure => simp [intOf]; omega
    · go_wp2
      go_ret
      exact ⟨rfl, hb⟩

theorem infoTxn : (Tryz.prog.info? 65).map (fun i => (i.zero, i.size, i.bytes)) = some (some (.agg #[.int .i64 0, .int .i64 0, .int .i64 0, .slice none 0 0]), 4, 48) := by kernel_rfl

theorem set4 (A B : List Value) (b0 b1 b2 b3 v0 v1 v2 v3 : Value) (k : Nat) (hA : A.length = k) : (((((A ++ b0 :: b1 :: b2 :: b3 :: B).set k v0).set (k + 1) v1).set (k + 2) v2).set (k + 3) v3) = A ++ v0 :: v1 :: v2 :: v3 :: B := by
  subst hA
  have e : ∀ j, A.length + j - A.length = j := fun j => by omega
  rw [List.set_append_right _ _ (Nat.le_refl _), List.set_append_right _ _ (by omega), List.set_append_right _ _ (by omega), List.set_append_right _ _ (by omega)]
  simp [e]

/-- Four cells of a row of fours are written over. -/
theorem lay4 {w : World} {base e g cap n k : Nat} {A ys : List Value} {v0 v1 v2 v3 : Value} (ho : w.ownsRow base e 4 (.slice (some ⟨g, 0, none⟩) n cap) n (A ++ ys.drop (k * 4)))
    (hl : ys.length = n * 4) (hA : A.length = k * 4) (hk : k < n) :
    ((((w.setCell ⟨g, k * 4, none⟩ v0).setCell ⟨g, k * 4 + 1, none⟩ v1).setCell ⟨g, k * 4 + 2, none⟩ v2).setCell ⟨g, k * 4 + 3, none⟩ v3).ownsRow base e 4 (.slice (some ⟨g, 0, none⟩) n cap) n ((A ++ [v0, v1, v2, v3]) ++ ys.drop ((k + 1) * 4)) ∧
    (w.frozen? ⟨g, k * 4, none⟩ = false ∧ w.frozen? ⟨g, k * 4 + 1, none⟩ = false ∧ w.frozen? ⟨g, k * 4 + 2, none⟩ = false ∧ w.frozen? ⟨g, k * 4 + 3, none⟩ = false) ∧
    ((∃ u, w.cell? ⟨g, k * 4, none⟩ = some u) ∧ (∃ u, w.cell? ⟨g, k * 4 + 1, none⟩ = some u) ∧ (∃ u, w.cell? ⟨g, k * 4 + 2, none⟩ = some u) ∧ (∃ u, w.cell? ⟨g, k * 4 + 3, none⟩ = some u)) := by
  have hc : ∀ j, j < n * 4 → ∃ u, w.cell? ⟨g, j, none⟩ = some u := fun j hj => by
    rw [ho.cellAt j hj]
    exact ⟨_, List.getElem?_eq_getElem (by rw [ho.1]; exact hj)⟩
  have s3 := ((((ho.stored (k * 4) v0).1.stored (k * 4 + 1) v1).1.stored (k * 4 + 2) v2).1.stored (k * 4 + 3) v3).1
  obtain ⟨b0, b1, b2, b3, hd⟩ : ∃ b0 b1 b2 b3, ys.drop (k * 4) = b0 :: b1 :: b2 :: b3 :: ys.drop ((k + 1) * 4) := by
    rw [List.drop_eq_getElem_cons (show k * 4 < ys.length by omega), List.drop_eq_getElem_cons (show k * 4 + 1 < ys.length by omega), List.drop_eq_getElem_cons (show k * 4 + 1 + 1 < ys.length by omega), List.drop_eq_getElem_cons (show k * 4 + 1 + 1 + 1 < ys.length by omega), show (k + 1) * 4 = k * 4 + 1 + 1 + 1 + 1 by omega]
    exact ⟨_, _, _, _, rfl⟩
  rw [hd, set4 _ _ _ _ _ _ _ _ _ _ _ hA] at s3
  exact ⟨by simpa using s3, ⟨ho.frozenAt _, ho.frozenAt _, ho.frozenAt _, ho.frozenAt _⟩, hc _ (by omega), hc _ (by omega), hc _ (by omega), hc _ (by omega)⟩

theorem own_set_other {w : World} {base e n s g j : Nat} {v u : Value} {xs : List Value} (h : w.ownsRow base e s v n xs) (hne : ∀ k, v.ownBlock = some k → k ≠ g) : (w.setCell ⟨g, j, none⟩ u).ownsRow base e s v n xs := by
  refine ⟨h.1, ?_⟩
  rcases h.2 with h2 | ⟨g', cap, cur, hv, hg, hh, r⟩
  · exact Or.inl h2
  · exact Or.inr ⟨g', cap, cur, hv, hg, by rw [Below.heap_setCell _ _ _ _ (by have := hne g' (by rw [hv]; rfl); omega)]; exact hh, r⟩

set_option maxHeartbeats 2000000 in
theorem toTxnS_any (v : Value) (ds : List TxnD) (w : World) (h : TxnsAt w v ds) (hl : ds.length + sumA ds ≤ 1048576) :
    Calls Tryz.prog 14 #[v] w fun e w' => ∃ v', e = .returned v' ∧ OwnTxns w.heap.size w'.heap.size w' v' ds ∧ Below w.heap.size w w' := by
  obtain ⟨a, cap, rfl⟩ := h.shape
  obtain ⟨i0, hi, hz0, hz1, hz2⟩ := info_parts infoTxn
  have hbytes : i0.bytes * ds.length ≤ 281474976710656 := by rw [hz2]; omega
  have hmax : ds.length ≤ maxLen := by unfold maxLen; omega
  go_enter Tryz.func14, Tryz.ntmps14
  go_wp2_with (at_make; refine wpList_make_full _ rfl _ _ 29 rfl w.heap.size 65 i0 (.agg #[.int .i64 0, .int .i64 0, .int .i64 0, .slice none 0 0]) 4 Tryz.underlying29 hi hz0 hz1 _ _ _ _ ds.length rfl rfl rfl rfl hbytes hmax (Nat.le_refl _) ?_)
  intro w1 hown hgrow
  have hlen0 : (madeCells #[Value.int .i64 0, .int .i64 0, .int .i64 0, .slice none 0 0] (ds.length * 4)).toList.length = ds.length * 4 := by simp [size_madeCells]
  have hb1 : Below w.heap.size w w1 := (Below.refl _ _).grown hgrow (Nat.le_refl _) (by simp)
  have hg1 : w.heap.size < w1.heap.size := (hown.lt w.heap.size rfl).2
  generalize (madeCells #[Value.int .i64 0, .int .i64 0, .int .i64 0, .slice none 0 0] (ds.length * 4)).toList = ys at hown hlen0
  clear hgrow
  go_wp2
  go_loopw [4] (fun i wr => ∃ (k : Nat) (ps : List TxnP), k ≤ ds.length ∧ i = .int .i64 k ∧ Hid (ps.map TxnP.d = ds.take k) ∧ wr.ownsRow w.heap.size 65 4 (.slice (some ⟨w.heap.size, 0, none⟩) ds.length ds.length) ds.length (txnCells ps ++ ys.drop (k * 4)) ∧
    Hid (∀ p ∈ ps, wr.ownsRow w.heap.size 105 3 p.sl p.d.acts.length (actCells p.d.acts) ∧ ∀ k, p.sl.ownBlock = some k → k ≠ w.heap.size) ∧ Below w.heap.size w wr ∧ w.heap.size < wr.heap.size) (fun i _ => ds.length - (intOf i).toNat)
  case atStart => exact ⟨0, [], Nat.zero_le _, rfl, rfl, by simpa [txnCells] using hown, fun p hp => by simp at hp, hb1, hg1⟩
  case round =>
    obtain ⟨k, ps, hk, rfl, HD, ho, HP, hb, hg⟩ := hrel
    by_cases hlt : k < ds.length
    · obtain ⟨b, off, aa, cc, rfl, hbs, hc0, hc1, hc2, hc3, hA⟩ := (h.below hb).at k hlt
      have hzl : (ds.getD k txnNo).acts.length ≤ sumA ds := mem_le_sumA (by simp [List.getD, hlt])
      have HD' : Hid (ds.take (k + 1) = ds.take k ++ [ds.getD k txnNo]) := by
        have e : ds.getD k txnNo = ds[k] := by simp [List.getD, hlt]
        show _ = _
        rw [List.take_succ_eq_append_getElem hlt, e]
      generalize ds.getD k txnNo = z at hc0 hc1 hc2 hc3 hA hzl HD'
      obtain ⟨z0, z1, z2, zs⟩ := z
      dsimp only at hc0 hc1 hc2 hc3 hA hzl
      go_wp2_with fail
      refine (toTxn_any z0 z1 z2 aa cc zs _ hA (by omega)).mono ?_
      rintro e w2 ⟨g2, c2, rfl, o2, hb2⟩
      have hpl : (txnCells ps).length = k * 4 := by
        have := congrArg List.length HD.out
        simp at this
        rw [txnCells_length]; omega
      have ho' := own_below ho hb2
      obtain ⟨hst, ⟨f0, f1, f2, f3⟩, ⟨⟨u0, e0⟩, ⟨u1, e1⟩, ⟨u2, e2⟩, ⟨u3, e3⟩⟩⟩ := lay4 (v0 := .int .i64 z0) (v1 := .int .i64 z1) (v2 := .int .i64 z2) (v3 := .slice (some ⟨g2, 0, none⟩) zs.length c2) ho' hlen0 hpl hlt
      have hsz := hb2.size
      have hgb : wr.heap.size ≤ g2 := (o2.lt g2 rfl).1
      have R : Hid ((((((w2.setCell ⟨w.heap.size, k * 4, none⟩ (.int .i64 z0)).setCell ⟨w.heap.size, k * 4 + 1, none⟩ (.int .i64 z1)).setCell ⟨w.heap.size, k * 4 + 2, none⟩ (.int .i64 z2)).setCell ⟨w.heap.size, k * 4 + 3, none⟩ (.slice (some ⟨g2, 0, none⟩) zs.length c2)).ownsRow w.heap.size 65 4 (.slice (some ⟨w.heap.size, 0, none⟩) ds.length ds.length) ds.length (txnCells (ps ++ [⟨⟨z0, z1, z2, zs⟩, some ⟨g2, 0, none⟩, c2⟩]) ++ ys.drop ((k + 1) * 4))) ∧
        (∀ p ∈ ps ++ [⟨⟨z0, z1, z2, zs⟩, some ⟨g2, 0, none⟩, c2⟩], ((((w2.setCell ⟨w.heap.size, k * 4, none⟩ (.int .i64 z0)).setCell ⟨w.heap.size, k * 4 + 1, none⟩ (.int .i64 z1)).setCell ⟨w.heap.size, k * 4 + 2, none⟩ (.int .i64 z2)).setCell ⟨w.heap.size, k * 4 + 3, none⟩ (.slice (some ⟨g2, 0, none⟩) zs.length c2)).ownsRow w.heap.size 105 3 p.sl p.d.acts.length (actCells p.d.acts) ∧ ∀ k, p.sl.ownBlock = some k → k ≠ w.heap.size) ∧
        Below w.heap.size w ((((w2.setCell ⟨w.heap.size, k * 4, none⟩ (.int .i64 z0)).setCell ⟨w.heap.size, k * 4 + 1, none⟩ (.int .i64 z1)).setCell ⟨w.heap.size, k * 4 + 2, none⟩ (.int .i64 z2)).setCell ⟨w.heap.size, k * 4 + 3, none⟩ (.slice (some ⟨g2, 0, none⟩) zs.length c2)) ∧
        w.heap.size < ((((w2.setCell ⟨w.heap.size, k * 4, none⟩ (.int .i64 z0)).setCell ⟨w.heap.size, k * 4 + 1, none⟩ (.int .i64 z1)).setCell ⟨w.heap.size, k * 4 + 2, none⟩ (.int .i64 z2)).setCell ⟨w.heap.size, k * 4 + 3, none⟩ (.slice (some ⟨g2, 0, none⟩) zs.length c2)).heap.size) := by
        refine ⟨by simpa [txnCells, TxnP.cells, TxnP.sl] using hst, ?_, ?_, ?_⟩
        · intro p hp
          have key : w2.ownsRow w.heap.size 105 3 p.sl p.d.acts.length (actCells p.d.acts) ∧ ∀ k, p.sl.ownBlock = some k → k ≠ w.heap.size := by
            rcases List.mem_append.1 hp with hp | hp
            · exact ⟨own_below (HP.out p hp).1 hb2, (HP.out p hp).2⟩
            · simp only [List.mem_singleton] at hp
              subst hp
              refine ⟨own_base o2 hb.size, fun k hk => ?_⟩
              simp only [TxnP.sl, Value.ownBlock, Option.some.injEq] at hk
              omega
          exact ⟨own_set_other (own_set_other (own_set_other (own_set_other key.1 key.2) key.2) key.2) key.2, key.2⟩
        · refine Below.setCell (Below.setCell (Below.setCell (Below.setCell (below_from hb hb2) ?_ _) ?_ _) ?_ _) ?_ _ <;> exact Nat.le_refl _
        · simp [World.setCell]; omega
      clear hst ho ho' HP o2 hb hb2 hA
      go_wp2
      go_roundw
      case rel => exact ⟨k + 1, _, by omega, by go_num, (by rw [HD'.out, ← HD.out]; simp : _ = _), R.out.1, R.out.2.1, R.out.2.2.1, R.out.2.2.2⟩
      case measure => simp [intOf]; omega
    · have hkl : k = ds.length := by omega
      subst hkl
      have hd : ps.map TxnP.d = ds := by have := HD.out; rwa [List.take_length] at this
      rw [show ys.drop (ds.length * 4) = [] from List.drop_of_length_le (by omega), List.append_nil] at ho
      go_wp2
      go_ret
      exact ⟨_, rfl, ⟨_, _, ps, rfl, hg, hd, ho, fun p hp => ⟨(HP.out p hp).1, fun k hk => ⟨((HP.out p hp).1.lt k hk).2, (HP.out p hp).2 k hk⟩⟩⟩, hb⟩

end Go.Proofs.YtmlkfmjenkcflaaGreatDoor

/- The kinds of elements: numbers, acts, transactions. No condition. -/
namespace Go.Proofs.YtmlkfmjenkcflaaGreatDoor
open Go.RowKit
set_option linter.unusedVariables false
set_option maxRecDepth 100000
set_option linter.unusedSimpArgs false

/-- Numbers. -/
def intK : Kind Int where
  ty := 2
  size := 1
  cells n := [.int .i64 n]
  own _ _ := True
  rd _ _ := True
  foot _ := []
  len _ := rfl
  own_rd _ := trivial
  own_out _ _ _ := trivial
  own_lt _ k hk := by simp at hk
  rd_below _ _ := trivial
/-- Acts. -/
def actK : Kind ActD where
  ty := 105
  size := 3
  cells := ActD.cells
  own _ _ := True
  rd _ _ := True
  foot _ := []
  len _ := rfl
  own_rd _ := trivial
  own_out _ _ _ := trivial
  own_lt _ k hk := by simp at hk
  rd_below _ _ := trivial

/-- A transaction where it lies. -/
structure TxnQ where
  i : Int
  s : Int
  q : Int
  va : Value
  acts : List ActD
def txnK : Kind TxnQ where
  ty := 65
  size := 4
  cells p := [.int .i64 p.i, .int .i64 p.s, .int .i64 p.q, p.va]
  own w p := actK.Own w p.va p.acts
  rd w p := actK.At w p.va p.acts
  foot p := actK.fp p.va p.acts
  len _ := rfl
  own_rd h := h.at
  own_out h ho hd := h.out ho hd
  own_lt h := h.lt
  rd_below h hb := h.below hb

/-- What a transaction tells, without where it lies. -/
def TxnQ.e (p : TxnQ) : TxnD := ⟨p.i, p.s, p.q, p.acts⟩
/-- How much there is. -/
def TxnD.n (d : TxnD) : Nat := d.acts.length
def txnsN (ds : List TxnD) : Nat := ds.length + nmL TxnD.n ds

end Go.Proofs.YtmlkfmjenkcflaaGreatDoor

/- The kinds of elements: rounds; an instance. No condition. -/
namespace Go.Proofs.YtmlkfmjenkcflaaGreatDoor
open Go.RowKit
set_option linter.unusedVariables false
set_option maxRecDepth 100000
set_option linter.unusedSimpArgs false

/-- A round where it lies. -/
structure RoundQ where
  vr : Value
  rep : List Int
  vp : Value
  pro : List Int
def roundK : Kind RoundQ where
  ty := 43
  size := 2
  cells p := [p.vr, p.vp]
  own w p := intK.Own w p.vr p.rep ∧ intK.Own w p.vp p.pro
  rd w p := intK.At w p.vr p.rep ∧ intK.At w p.vp p.pro
  foot p := intK.fp p.vr p.rep ++ intK.fp p.vp p.pro
  len _ := rfl
  own_rd h := ⟨h.1.at, h.2.at⟩
  own_out h ho hd := ⟨h.1.out ho (fun k hk => hd k (List.mem_append_left _ hk)), h.2.out ho (fun k hk => hd k (List.mem_append_right _ hk))⟩
  own_lt h k hk := by
    rcases List.mem_append.1 hk with hk | hk
    · exact h.1.lt k hk
    · exact h.2.lt k hk
  rd_below h hb := ⟨h.1.below hb, h.2.below hb⟩

/-- An instance where it lies. -/
structure InstQ where
  has : Bool
  vb : Value
  batch : List TxnQ
  vr : Value
  rounds : List RoundQ
  vd : Value
  dec : List Int
def instK : Kind InstQ where
  ty := 32
  size := 4
  cells p := [.bool p.has, p.vb, p.vr, p.vd]
  own w p := txnK.Own w p.vb p.batch ∧ roundK.Own w p.vr p.rounds ∧ intK.Own w p.vd p.dec
  rd w p := txnK.At w p.vb p.batch ∧ roundK.At w p.vr p.rounds ∧ intK.At w p.vd p.dec
  foot p := txnK.fp p.vb p.batch ++ (roundK.fp p.vr p.rounds ++ intK.fp p.vd p.dec)
  len _ := rfl
  own_rd h := ⟨h.1.at, h.2.1.at, h.2.2.at⟩
  own_out h ho hd := ⟨h.1.out ho (fun k hk => hd k (List.mem_append_left _ hk)), h.2.1.out ho (fun k hk => hd k (List.mem_append_right _ (List.mem_append_left _ hk))), h.2.2.out ho (fun k hk => hd k (List.mem_append_right _ (List.mem_append_right _ hk)))⟩
  own_lt h k hk := by
    rcases List.mem_append.1 hk with hk | hk
    · exact h.1.lt k hk
    · rcases List.mem_append.1 hk with hk | hk
      · exact h.2.1.lt k hk
      · exact h.2.2.lt k hk
  rd_below h hb := ⟨h.1.below hb, h.2.1.below hb, h.2.2.below hb⟩

/-- What they tell, without where they lie. -/
structure RoundE where
  rep : List Int
  pro : List Int
structure InstE where
  has : Bool
  batch : List TxnD
  rounds : List RoundE
  dec : List Int
def RoundQ.e (p : RoundQ) : RoundE := ⟨p.rep, p.pro⟩
def InstQ.e (p : InstQ) : InstE := ⟨p.has, p.batch.map TxnQ.e, p.rounds.map RoundQ.e, p.dec⟩

/-- How much there is. -/
def RoundE.n (d : RoundE) : Nat := d.rep.length + d.pro.length
def roundsN (ds : List RoundE) : Nat := ds.length + nmL RoundE.n ds
def InstE.n (d : InstE) : Nat := txnsN d.batch + roundsN d.rounds + d.dec.length

end Go.Proofs.YtmlkfmjenkcflaaGreatDoor

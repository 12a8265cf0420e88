/- Lists of elements that are laid anew: where they begin, and one element after another put in. No condition. -/
import Derived.Test.YticfbapipdhhmaaFoot
namespace Go.Proofs.Yticfbapipdhhmaa
open Go.RowKit
set_option linter.unusedVariables false
set_option linter.unusedSimpArgs false

section
variable {P : Type} {K : Kind P} {w w' : World} {v : Value} {ps : List P}

theorem made_row (z : P) (n : Nat) (hs : 0 < K.size) : (madeCells (K.cells z).toArray (n * K.size)).toList = K.row (List.replicate n z) := by
  have hl := Kind.row_length (K := K) (List.replicate n z)
  rw [List.length_replicate] at hl
  apply List.ext_getElem?
  intro j
  by_cases hj : j < n * K.size
  · have hm := Nat.mod_lt j hs
    have hq : j / K.size < n := Nat.div_lt_of_lt_mul (by rw [Nat.mul_comm]; exact hj)
    have e : j = j / K.size * K.size + j % K.size := by rw [Nat.mul_comm]; exact (Nat.div_add_mod j K.size).symm
    have e2 := Kind.row_get (K := K) (List.replicate n z) (j / K.size) (by simpa using hq) (j % K.size) hm
    rw [← e] at e2
    rw [e2]
    have hz : (K.cells z).length = K.size := K.len z
    simp only [madeCells, Array.toList_map, Array.toList_range, List.getElem?_map, List.getElem?_range hj, Option.map_some, List.size_toArray, hz, List.getElem_replicate]
    rw [List.getElem!_toArray, List.getElem?_eq_getElem (by omega), getElem!_pos (K.cells z) (j % K.size) (by omega)]
  · rw [List.getElem?_eq_none (by simp [size_madeCells]; omega), List.getElem?_eq_none (by omega)]

theorem fp_new {z : P} {n g cap : Nat} (hz : K.foot z = []) : K.fp (.slice (some ⟨g, 0, none⟩) n cap) (List.replicate n z) = [g] := by
  have : (List.replicate n z).flatMap K.foot = [] := by
    rw [List.flatMap_eq_nil_iff]
    intro x hx
    rw [(List.mem_replicate.1 hx).2, hz]
  simp [Kind.fp, blk, Value.ownBlock, this]
theorem set_split (ps : List P) (i : Nat) (hi : i < ps.length) (p : P) : ps.set i p = ps.take i ++ p :: ps.drop (i + 1) := by
  rw [List.set_eq_take_append_cons_drop, if_pos hi]
theorem mem_foot_set {ps : List P} {i : Nat} (hi : i < ps.length) {p : P} {k : Nat} (h : k ∈ (ps.set i p).flatMap K.foot) : k ∈ ps.flatMap K.foot ∨ k ∈ K.foot p := by
  obtain ⟨q, hq, hk⟩ := List.mem_flatMap.1 h
  rcases List.mem_or_eq_of_mem_set hq with hq | rfl
  · exact Or.inl (List.mem_flatMap.2 ⟨q, hq, hk⟩)
  · exact Or.inr hk
theorem nodup_put {ps : List P} (h : (K.fp v ps).Nodup) (i : Nat) (hi : i < ps.length) (p : P) (h0 : K.foot ps[i] = []) (hp : (K.foot p).Nodup) (hd : ∀ k ∈ K.foot p, k ∉ K.fp v ps) : (K.fp v (ps.set i p)).Nodup := by
  have e : ps = ps.take i ++ ps[i] :: ps.drop (i + 1) := by
    conv => lhs; rw [← List.take_append_drop i ps, List.drop_eq_getElem_cons hi]
  have hA : K.fp v ps = blk v ++ ((ps.take i).flatMap K.foot ++ (ps.drop (i + 1)).flatMap K.foot) := by
    conv => lhs; rw [e]
    simp only [Kind.fp, List.flatMap_append, List.flatMap_cons, h0, List.nil_append]
  rw [hA] at h hd
  simp only [Kind.fp]
  rw [set_split ps i hi p]
  simp only [List.flatMap_append, List.flatMap_cons]
  generalize blk v = A at *
  generalize (ps.take i).flatMap K.foot = B at *
  generalize (ps.drop (i + 1)).flatMap K.foot = C at *
  generalize K.foot p = D at *
  simp only [List.nodup_append, List.mem_append] at h hd ⊢
  obtain ⟨hA1, ⟨hB1, hC1, hBC⟩, hABC⟩ := h
  refine ⟨hA1, ⟨hB1, ⟨hp, hC1, ?_⟩, ?_⟩, ?_⟩
  · rintro a ha b hb rfl
    exact hd a ha (Or.inr (Or.inr hb))
  · rintro a ha b (hb | hb) rfl
    · exact hd a hb (Or.inr (Or.inl ha))
    · exact hBC a ha a hb rfl
  · rintro a ha b (hb | hb | hb) rfl
    · exact hABC a ha a (Or.inl hb) rfl
    · exact hd a hb (Or.inl ha)
    · exact hABC a ha a (Or.inr hb) rfl

section
variable {g n cap k : Nat} {hs : List P} {p : P}
theorem Kind.Own.elem' (h : K.Own w v (hs.set k p)) (hk : k < hs.length) : K.own w p := h.2 p (List.mem_set hk p)
theorem Kind.Own.cell' (h : K.Own w (.slice (some ⟨g, 0, none⟩) n cap) (hs.set k p)) (hk : k < hs.length) (j : Nat) (x : Value) (hx : (K.cells p)[j]? = some x) : w.cell? ⟨g, k * K.size + j, none⟩ = some x ∧ w.frozen? ⟨g, k * K.size + j, none⟩ = false :=
  h.cell k (by simpa using hk) j x (by rw [List.getElem_set_self]; exact hx)
theorem Kind.Own.store' (h : K.Own w (.slice (some ⟨g, 0, none⟩) n cap) (hs.set k p)) (hnd : (K.fp (.slice (some ⟨g, 0, none⟩) n cap) (hs.set k p)).Nodup) (hk : k < hs.length) (p' : P) (j : Nat) (u : Value) (hj : j < K.size)
    (hc : K.cells p' = (K.cells p).set j u) (hf : K.foot p' = K.foot p) (hown : ∀ w', K.own w' p → K.own w' p') :
    K.Own (w.setCell ⟨g, k * K.size + j, none⟩ u) (.slice (some ⟨g, 0, none⟩) n cap) (hs.set k p') ∧ (K.fp (.slice (some ⟨g, 0, none⟩) n cap) (hs.set k p')).Nodup := by
  have hk' : k < (hs.set k p).length := by simpa using hk
  have e : (hs.set k p)[k] = p := List.getElem_set_self (h := hk')
  obtain ⟨h1, h2⟩ := h.store hnd k hk' p' j u hj (by rw [e]; exact hc) (by rw [e]; exact hf) (by rw [e]; exact hown)
  rw [List.set_set] at h1 h2
  exact ⟨h1, by rw [h2]; exact hnd⟩
theorem Kind.Own.turn' (h : K.Own w v (hs.set k p)) (hnd : (K.fp v (hs.set k p)).Nodup) (hk : k < hs.length) (p' : P) {F : List Nat} (ho : Out F w w') (hF : ∀ x ∈ F, x ∈ K.foot p) (hc : K.cells p' = K.cells p) (hf : K.foot p' = K.foot p) (hown : K.own w' p') :
    K.Own w' v (hs.set k p') ∧ (K.fp v (hs.set k p')).Nodup := by
  have hk' : k < (hs.set k p).length := by simpa using hk
  have e : (hs.set k p)[k] = p := List.getElem_set_self (h := hk')
  obtain ⟨h1, h2⟩ := h.turn hnd k hk' p' ho (by rw [e]; exact hF) (by rw [e]; exact hc) (by rw [e]; exact hf) hown
  rw [List.set_set] at h1 h2
  exact ⟨h1, by rw [h2]; exact hnd⟩
end
theorem foot_mkL {mk : Int → P → P} {nm : P → Nat} (hf : ∀ c p, K.foot (mk c p) = K.foot p) (c : Int) (ps : List P) : (mkL mk nm c ps).flatMap K.foot = ps.flatMap K.foot := by
  induction ps generalizing c with
  | nil => rfl
  | cons p r ih => simp only [mkL, List.flatMap_cons, hf, ih]
theorem fp_mkL {mk : Int → P → P} {nm : P → Nat} (hf : ∀ c p, K.foot (mk c p) = K.foot p) (v : Value) (c : Int) (ps : List P) : K.fp v (mkL mk nm c ps) = K.fp v ps := by simp only [Kind.fp, foot_mkL hf]
theorem fp_half {mk : Int → P → P} {nm : P → Nat} (hf : ∀ c p, K.foot (mk c p) = K.foot p) (v : Value) (c : Int) (ps : List P) (k : Nat) : K.fp v (half mk nm c ps k) = K.fp v ps := by
  have h1 : ((mkL mk nm c ps).take k).flatMap K.foot = (ps.take k).flatMap K.foot := by
    have e : (mkL mk nm c ps).take k = mkL mk nm c (ps.take k) := by
      induction ps generalizing c k with
      | nil => simp [mkL]
      | cons p r ih =>
        cases k with
        | zero => simp [mkL]
        | succ k => simp only [mkL, List.take_succ_cons, ih]
    rw [e, foot_mkL hf]
  simp only [Kind.fp, half, List.flatMap_append, h1]
  rw [← List.flatMap_append, List.take_append_drop]

end

theorem Out.set {F : List Nat} {w W : World} {b j : Nat} {u : Value} (h : Out F w W) (hb : b ∈ F) : Out F w (W.setCell ⟨b, j, none⟩ u) := h.trans ((Out.setCell W b j u).mono (fun k hk => by simp only [List.mem_singleton] at hk; rw [hk]; exact hb))
theorem Out.call {F : List Nat} {w W W' : World} (h : Out F w W) (hb : Below W.heap.size W W') : Out F w W' := h.trans (Out.of_below hb)
theorem Below.call {B : Nat} {w W W' : World} (h : Below B w W) (hs : B ≤ W.heap.size) (hb : Below W.heap.size W W') : Below B w W' := h.trans (hb.mono hs)
/-- A row of cells is written over, place by place. -/
theorem own_setFrom {w : World} {base e s g n cap : Nat} {xs : List Value} (h : w.ownsRow base e s (.slice (some ⟨g, 0, none⟩) n cap) n xs) (o : Nat) (ys : List Value) :
    (ys.zipIdx.foldl (fun w (y : Value × Nat) => w.setCell ⟨g, o + y.2, none⟩ y.1) w).ownsRow base e s (.slice (some ⟨g, 0, none⟩) n cap) n (setFrom xs o ys) := by
  suffices H : ∀ (ys : List Value) (w : World) (xs : List Value) (d : Nat), w.ownsRow base e s (.slice (some ⟨g, 0, none⟩) n cap) n xs → ((ys.zipIdx d).foldl (fun w (y : Value × Nat) => w.setCell ⟨g, o + y.2, none⟩ y.1) w).ownsRow base e s (.slice (some ⟨g, 0, none⟩) n cap) n (setFrom xs (o + d) ys) from H ys w xs 0 h
  intro ys
  induction ys with
  | nil => intro w xs d h; exact h
  | cons y ys ih =>
    intro w xs d h
    have := ih (w.setCell ⟨g, o + d, none⟩ y) (xs.set (o + d) y) (d + 1) (h.stored (o + d) y).1
    simpa [List.zipIdx_cons, setFrom, Nat.add_assoc] using this

end Go.Proofs.Yticfbapipdhhmaa

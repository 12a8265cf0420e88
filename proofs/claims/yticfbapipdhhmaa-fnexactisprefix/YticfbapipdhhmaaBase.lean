/- Plain notions for all walks of this seat: when a slice can be read as a list of integers, what the given marks are, and how these facts last through later worlds. No condition. -/
import Derived.WalkKit
import Derived.WalkSpells
import Derived.WalkLawsBesides
import Derived.BigQuiet
import Derived.Handy
namespace Go.Proofs.Yticfbapipdhhmaa
open Go.RowKit
set_option linter.unusedVariables false
set_option linter.unusedSimpArgs false

theorem pjE {α : Type} : (∀ (l : List α) (i : Nat) (a : α), l.toArray.setIfInBounds i a = (l.set i a).toArray) ∧ (∀ (l : List α) (x a : α), (x :: l).set 0 a = a :: l) ∧ (∀ (l : List α) (x a : α) (n : Nat), (x :: l).set (n + 1) a = x :: l.set n a) :=
  ⟨fun _ _ _ => List.setIfInBounds_toArray .., fun _ _ _ => rfl, fun _ _ _ _ => rfl⟩

theorem pgE {α : Type} : (∀ (l : List α) (i : Nat) (h : i < l.toArray.size), l.toArray[i] = l[i]'(by simpa using h)) ∧ (∀ (l : List α) (x : α) (i : Nat) (h : i + 1 < (x :: l).length), (x :: l)[i + 1] = l[i]'(Nat.lt_of_succ_lt_succ h)) ∧ (∀ (l : List α) (x : α) (h : 0 < (x :: l).length), (x :: l)[0] = x) :=
  ⟨fun _ _ _ => List.getElem_toArray .., fun _ _ _ _ => List.getElem_cons_succ .., fun _ _ _ => rfl⟩

/-- The slice that begins at 'a' reads as the integers zs (of kind k) in w. -/
def Row (k : IntKind) (w : World) (a : Option Addr) (zs : List Int) : Prop :=
  ∀ i, i < zs.length → ∃ b off, a = some ⟨b, off, none⟩ ∧ b < w.heap.size ∧ w.cell? ⟨b, off + i, none⟩ = some (.int k (zs.getD i 0))

theorem Row.nil (k : IntKind) (w : World) (a : Option Addr) : Row k w a [] := fun i h => absurd h (Nat.not_lt_zero _)

theorem Row.below {k : IntKind} {w w' : World} {a : Option Addr} {zs : List Int} (h : Row k w a zs) (hb : Below w.heap.size w w') : Row k w' a zs := by
  intro i hi
  obtain ⟨b, off, ha, hlt, hc⟩ := h i hi
  exact ⟨b, off, ha, Nat.lt_of_lt_of_le hlt hb.size, by rw [hb.cell (p := ⟨b, off + i, none⟩) hlt]; exact hc⟩

theorem Row.own {k : IntKind} {w : World} {base e n c : Nat} {a : Option Addr} {zs : List Int} (h : w.ownsRow base e 1 (.slice a n c) n (zs.map (Value.int k))) : Row k w a zs := by
  have hlen : zs.length = n := by simpa using h.1
  intro i hi
  rcases h.2 with ⟨he, hn⟩ | ⟨g, cap, cur, he, hb, hg, r⟩
  · omega
  · simp only [Value.slice.injEq, true_and] at he
    obtain ⟨rfl, rfl⟩ := he
    refine ⟨g, 0, rfl, (Array.getElem?_eq_some_iff.1 hg).1, ?_⟩
    have := h.cellAt i (by omega)
    rw [Nat.zero_add, this]
    simp [List.getD, hi]

/-- What the frame of a claim tells of a slice that came in, as a Row. -/
theorem row_in {k : IntKind} {w : World} {a : Option Addr} {len cap : Nat} {zs : List Int}
    (h : (a = none ∧ len = 0 ∧ cap = 0 ∧ zs = []) ∨ ∃ x, a = some x ∧ len ≤ cap ∧ cap ≤ maxLen ∧ zs.length = cap ∧ (∀ i, i < zs.length → w.cell? (x.add i) = some (.int k (zs.getD i 0))) ∧ ∀ n ∈ zs, (Lit.int k n).wf = true) :
    ∃ ys : List Int, len = ys.length ∧ ys.length ≤ 9223372036854775807 ∧ Row k w a ys ∧ ∀ n ∈ ys, (Lit.int k n).wf = true := by
  rcases h with ⟨rfl, rfl, rfl, rfl⟩ | ⟨x, rfl, hl, hm, hz, hc, hw⟩
  · exact ⟨[], rfl, by simp, Row.nil _ _ _, by simp⟩
  · refine ⟨zs.take len, by simp; omega, by unfold maxLen at hm; simp; omega, ?_, fun n hn => hw n (List.mem_of_mem_take hn)⟩
    intro i hi
    simp at hi
    have h1 := hc i (by omega)
    obtain ⟨b, off, spot⟩ := x
    have hspot : spot = none := by simpa [Addr.add] using World.cell?_spot (hc 0 (by omega))
    subst hspot
    have h2 : w.cell? ⟨b, off + i, none⟩ = some (.int k (zs.getD i 0)) := by rw [Addr.add_lit] at h1; exact h1
    refine ⟨b, off, rfl, World.block_lt_of_cell? w _ h2, ?_⟩
    rw [h2]
    simp [List.getD, List.getElem?_take, show i < len by omega]

theorem u8_bounds {zs : List Int} (h : ∀ n ∈ zs, (Lit.int .u8 n).wf = true) : ∀ i, 0 ≤ zs.getD i 0 ∧ zs.getD i 0 ≤ 255 := by
  intro i
  by_cases hi : i < zs.length
  · have := h (zs.getD i 0) (by simp [List.getD, hi])
    exact bounds_u8 this
  · simp [List.getD, List.getElem?_eq_none (show zs.length ≤ i by omega)]

/-- Where a call has made new memory only, all that was there reads as before. -/
theorem bcell {W w1 : World} (hb : Below W.heap.size W w1) : (∀ b o, b < W.heap.size → w1.cell? ⟨b, o, none⟩ = W.cell? ⟨b, o, none⟩) ∧ (∀ b o, b < W.heap.size → w1.frozen? ⟨b, o, none⟩ = W.frozen? ⟨b, o, none⟩) :=
  ⟨fun b o h => hb.cell (p := ⟨b, o, none⟩) h, fun b o h => hb.frozen (p := ⟨b, o, none⟩) h⟩

/-- What is owned stays owned behind a call that makes new memory only. -/
theorem own_below {w w' : World} {base e size n : Nat} {v : Value} {xs : List Value} (h : w.ownsRow base e size v n xs) (hb : Below w.heap.size w w') : w'.ownsRow base e size v n xs := by
  refine ⟨h.1, ?_⟩
  rcases h.2 with h2 | ⟨g, cap, cur, hv, hg, hh, r⟩
  · exact Or.inl h2
  · exact Or.inr ⟨g, cap, cur, hv, hg, by rw [hb.block g (Array.getElem?_eq_some_iff.1 hh).1]; exact hh, r⟩

theorem own_shape {w : World} {base e size n : Nat} {v : Value} {xs : List Value} (h : w.ownsRow base e size v n xs) : ∃ a k, v = .slice a n k := by
  rcases h.2 with ⟨rfl, rfl⟩ | ⟨g, cap, cur, rfl, r⟩
  · exact ⟨_, _, rfl⟩
  · exact ⟨_, _, rfl⟩

/-- What is owned from a number on is owned from every smaller one on. -/
theorem own_base {w : World} {base base' e size n : Nat} {v : Value} {xs : List Value} (h : w.ownsRow base e size v n xs) (hb : base' ≤ base) : w.ownsRow base' e size v n xs := by
  refine ⟨h.1, ?_⟩
  rcases h.2 with h2 | ⟨g, cap, cur, hv, hg, r⟩
  · exact Or.inl h2
  · exact Or.inr ⟨g, cap, cur, hv, Nat.le_trans hb hg, r⟩

/-- An answer of two cells lies in its own box, laid first; a list that was made behind it is owned still when the box is filled. -/
theorem ret_box {w w' : World} {e n : Nat} {v : Value} {xs : List Value} {o : Obj} (ho : w'.ownsRow (w.alloc o).heap.size e 1 v n xs) (hb : Below (w.alloc o).heap.size (w.alloc o) w') (x y : Value) :
    ((w'.setCell ⟨w.heap.size, 0, none⟩ x).setCell ⟨w.heap.size, 1, none⟩ y).ownsRow w.heap.size e 1 v n xs ∧ Below w.heap.size w ((w'.setCell ⟨w.heap.size, 0, none⟩ x).setCell ⟨w.heap.size, 1, none⟩ y) := by
  have hs : (w.alloc o).heap.size = w.heap.size + 1 := by simp
  refine ⟨own_base (ownsRow_setCell_below (ownsRow_setCell_below ho (by rw [hs]; exact Nat.lt_succ_self _) _) (by rw [hs]; exact Nat.lt_succ_self _) _) (by omega), ?_⟩
  exact ((((Below.refl _ _).alloc (Nat.le_refl _) o).trans (hb.mono (by omega))).setCell (Nat.le_refl _) _).setCell (Nat.le_refl _) _

/-- Two cells at the head of block b. -/
structure Box (w : World) (b : Nat) (x y : Value) : Prop where
  fst : w.cell? ⟨b, 0, none⟩ = some x
  snd : w.cell? ⟨b, 1, none⟩ = some y

theorem Box.lt {w : World} {b : Nat} {x y : Value} (h : Box w b x y) : b < w.heap.size := World.block_lt_of_cell? w ⟨b, 0, none⟩ h.fst
theorem Box.new (w : World) (x y : Value) (t : TypeId) : Box (w.alloc (.cells #[x, y] t)) w.heap.size x y := ⟨by simp, by simp⟩
theorem Box.below {w w' : World} {b : Nat} {x y : Value} (h : Box w b x y) (hb : Below w.heap.size w w') : Box w' b x y :=
  ⟨by rw [hb.cell (p := ⟨b, 0, none⟩) h.lt]; exact h.fst, by rw [hb.cell (p := ⟨b, 1, none⟩) h.lt]; exact h.snd⟩
theorem Box.alloc {w : World} {b : Nat} {x y : Value} (h : Box w b x y) (o : Obj) : Box (w.alloc o) b x y := h.below ((Below.refl _ _).alloc (Nat.le_refl _) o)
theorem Box.grown {w w' : World} {b : Nat} {x y : Value} {row : Option Nat} (h : Box w b x y) (hg : w.grownBy w' row) (hne : some b ≠ row) : Box w' b x y :=
  ⟨hg.cell h.fst hne, hg.cell h.snd hne⟩

theorem own_apart {w w' : World} {base base' e e' n n' : Nat} {v v' : Value} {xs xs' : List Value} (h : w.ownsRow base e 1 v n xs) (h' : w'.ownsRow base' e' 1 v' n' xs') (hb : w.heap.size ≤ base') : v.ownBlock = none ∨ v.ownBlock ≠ v'.ownBlock := by
  cases hv : v.ownBlock with
  | none => exact Or.inl rfl
  | some g =>
    right
    intro e
    have h1 := (h.lt g hv).2
    have h2 := (h'.lt g e.symm).1
    omega

theorem own_apart' {w w' : World} {base base' e e' n n' : Nat} {v v' : Value} {xs xs' : List Value} (h : w.ownsRow base e 1 v n xs) (h' : w'.ownsRow base' e' 1 v' n' xs') (hb : w.heap.size ≤ base') : v'.ownBlock = none ∨ v'.ownBlock ≠ v.ownBlock := by
  rcases own_apart h h' hb with e | e
  · cases hv : v'.ownBlock with
    | none => exact Or.inl rfl
    | some g => right; rw [e]; simp
  · exact Or.inr (fun k => e k.symm)

theorem own_not {w : World} {base e n b : Nat} {v : Value} {xs : List Value} (h : w.ownsRow base e 1 v n xs) (hb : b < base ∨ w.heap.size ≤ b) : some b ≠ v.ownBlock := by
  intro e
  have h1 := h.lt b e.symm
  omega

/-- The marks: from c on, counted up, as the kind k holds them. -/
def marks (k : IntKind) (c : Int) (n : Nat) : List Int := (List.range n).map fun (i : Nat) => k.wrap (c + (i : Int))

theorem marks_length (k : IntKind) (c : Int) (n : Nat) : (marks k c n).length = n := by simp [marks]

theorem marks_getD (k : IntKind) (c : Int) (n i : Nat) (h : i < n) : (marks k c n).getD i 0 = k.wrap (c + (i : Int)) := by simp [marks, List.getD, h]

theorem marks_get (k : IntKind) (c : Int) (n i : Nat) (h : i < n) : (marks k c n)[i]?.getD 0 = k.wrap (c + (i : Int)) := by simp [marks, h]

/-- A list whose head is written over, place by place. -/
def laid (zs : List Int) (k : IntKind) (xs : List Value) (i : Nat) : List Value := (zs.take i).map (Value.int k) ++ xs.drop i

theorem laid_zero (zs : List Int) (k : IntKind) (xs : List Value) : laid zs k xs 0 = xs := by simp [laid]

theorem laid_all (zs : List Int) (k : IntKind) (xs : List Value) (h : xs.length = zs.length) : laid zs k xs zs.length = zs.map (Value.int k) := by
  have : xs.drop zs.length = [] := List.drop_of_length_le (by omega)
  simp [laid, this]

theorem laid_step (zs : List Int) (k : IntKind) (xs : List Value) (i : Nat) (h : xs.length = zs.length) (hi : i < zs.length) : (laid zs k xs i).set i (.int k (zs.getD i 0)) = laid zs k xs (i + 1) := by
  apply List.ext_getElem?
  intro j
  simp only [laid, List.getElem?_set, List.getElem?_append, List.length_append, List.length_map, List.length_take, List.length_drop, List.getElem?_map, List.getElem?_drop, List.getElem?_take]
  by_cases hj : j = i
  · subst hj
    simp [Nat.min_eq_left (Nat.le_of_lt hi), hi, h, List.getD, Nat.min_eq_left (show j + 1 ≤ zs.length by omega)]
    omega
  · rw [if_neg (by omega)]
    rw [Nat.min_eq_left (by omega), Nat.min_eq_left (by omega)]
    by_cases hlt : j < i
    · simp [hlt, show j < i + 1 by omega]
    · rw [if_neg hlt, if_neg (by omega)]
      congr 1; omega

theorem laid_length (zs : List Int) (k : IntKind) (xs : List Value) (i : Nat) (h : xs.length = zs.length) (hi : i ≤ zs.length) : (laid zs k xs i).length = xs.length := by
  simp [laid]; omega

end Go.Proofs.Yticfbapipdhhmaa

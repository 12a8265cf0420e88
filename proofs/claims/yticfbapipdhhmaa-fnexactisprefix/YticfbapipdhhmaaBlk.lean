/- A block that is known whole, and how it lasts. No condition. -/
import Derived.Test.YticfbapipdhhmaaD2g
import Derived.Test.YticfbapipdhhmaaHelpR
namespace Go.Proofs.Yticfbapipdhhmaa
open Go.RowKit
set_option linter.unusedVariables false
set_option linter.unusedSimpArgs false

/-- Block b holds just these cells. -/
def Blk (w : World) (b : Nat) (t : TypeId) (cs : Array Value) : Prop := w.heap[b]? = some (.cells cs t (0, 0))

theorem Blk.lt {w : World} {b : Nat} {t : TypeId} {cs : Array Value} (h : Blk w b t cs) : b < w.heap.size := (Array.getElem?_eq_some_iff.1 h).1
theorem Blk.new (w : World) (t : TypeId) (cs : Array Value) : Blk (w.alloc (.cells cs t)) w.heap.size t cs := by
  show (w.heap.push _)[w.heap.size]? = _
  simp
theorem Blk.below {w w' : World} {b : Nat} {t : TypeId} {cs : Array Value} (h : Blk w b t cs) (hb : Below w.heap.size w w') : Blk w' b t cs := (hb.block b h.lt).trans h
theorem Blk.grown {w w' : World} {b : Nat} {t : TypeId} {cs : Array Value} {row : Option Nat} (h : Blk w b t cs) (hg : w.grownBy w' row) (hne : some b ≠ row) : Blk w' b t cs := (hg.block b h.lt hne).trans h
theorem Blk.cell {w : World} {b : Nat} {t : TypeId} {cs : Array Value} (h : Blk w b t cs) (j : Nat) (x : Value) (hx : cs[j]? = some x) : w.cell? ⟨b, j, none⟩ = some x := by
  unfold Blk at h
  simp [World.cell?, h, hx]
theorem Blk.frozen {w : World} {b : Nat} {t : TypeId} {cs : Array Value} (h : Blk w b t cs) (j : Nat) : w.frozen? ⟨b, j, none⟩ = false := by
  unfold Blk at h
  simp [World.frozen?, h]
theorem Blk.lat {w : World} {b : Nat} {t : TypeId} {cs : Array Value} (h : Blk w b t cs) (j : Nat) (x : Value) (hx : cs[j]? = some x) : ∀ u : Lat w, u.val.cell? ⟨b, j, none⟩ = some x := lat_cell (h.cell j x hx)

/-- Only blocks from lo up to hi have turned, of those that were there. -/
structure Only (lo hi : Nat) (w w' : World) : Prop where
  os : w'.os = w.os
  tape : w'.tape = w.tape
  output : w'.output = w.output
  size : w.heap.size ≤ w'.heap.size
  block : ∀ k, k < w.heap.size → (k < lo ∨ hi ≤ k) → w'.heap[k]? = w.heap[k]?

theorem only_of_grown {w w' : World} {row : Option Nat} {lo hi : Nat} (hg : w.grownBy w' row) (h : ∀ g, row = some g → lo ≤ g ∧ g < hi) : Only lo hi w w' :=
  ⟨hg.os, hg.tape, hg.output, hg.size, fun k hk hc => hg.block k hk (fun e => by have := h k e.symm; omega)⟩

theorem Only.refl (lo hi : Nat) (w : World) : Only lo hi w w := ⟨rfl, rfl, rfl, Nat.le_refl _, fun _ _ _ => rfl⟩
theorem Only.trans {lo hi : Nat} {a b c : World} (h : Only lo hi a b) (k : Only lo hi b c) : Only lo hi a c :=
  ⟨k.os.trans h.os, k.tape.trans h.tape, k.output.trans h.output, Nat.le_trans h.size k.size, fun i hi hc => (k.block i (Nat.lt_of_lt_of_le hi h.size) hc).trans (h.block i hi hc)⟩
theorem Only.of_below {lo hi : Nat} {w w' : World} (h : Below w.heap.size w w') : Only lo hi w w' := ⟨h.os, h.tape, h.output, h.size, fun k hk _ => h.block k hk⟩
theorem below_only {B lo hi : Nat} {a w w' : World} (h : Below B a w) (ho : Only lo hi w w') (hB : B ≤ lo) (hs : B ≤ w.heap.size) : Below B a w' :=
  ⟨ho.os.trans h.os, ho.tape.trans h.tape, ho.output.trans h.output, Nat.le_trans h.size ho.size, fun k hk => (ho.block k (by omega) (Or.inl (by omega))).trans (h.block k hk)⟩
theorem own_only {w w' : World} {lo hi base e size n : Nat} {v : Value} {xs : List Value} (h : w.ownsRow base e size v n xs) (ho : Only lo hi w w') (hb : hi ≤ base) : w'.ownsRow base e size v n xs := by
  refine ⟨h.1, ?_⟩
  rcases h.2 with h2 | ⟨g, cap, cur, hv, hg, hh, r⟩
  · exact Or.inl h2
  · exact Or.inr ⟨g, cap, cur, hv, hg, by rw [ho.block g (Array.getElem?_eq_some_iff.1 hh).1 (Or.inr (by omega))]; exact hh, r⟩
theorem blk_only {w w' : World} {lo hi b : Nat} {t : TypeId} {cs : Array Value} (h : Blk w b t cs) (ho : Only lo hi w w') (hb : hi ≤ b) : Blk w' b t cs := (ho.block b h.lt (Or.inr hb)).trans h

theorem own_apart3 {w w' : World} {base base' e e' n n' s s' : Nat} {v v' : Value} {xs xs' : List Value} (h : w.ownsRow base e s v n xs) (h' : w'.ownsRow base' e' s' v' n' xs') (hb : w.heap.size ≤ base') : v.ownBlock = none ∨ v.ownBlock ≠ v'.ownBlock := by
  cases hv : v.ownBlock with
  | none => exact Or.inl rfl
  | some g =>
    right
    intro e
    have h1 := (h.lt g hv).2
    have h2 := (h'.lt g e.symm).1
    omega

theorem own_apart3' {w w' : World} {base base' e e' n n' s s' : Nat} {v v' : Value} {xs xs' : List Value} (h : w.ownsRow base e s v n xs) (h' : w'.ownsRow base' e' s' v' n' xs') (hb : w.heap.size ≤ base') : v'.ownBlock = none ∨ v'.ownBlock ≠ v.ownBlock := by
  rcases own_apart3 h h' hb with e | e
  · cases hv : v'.ownBlock with
    | none => exact Or.inl rfl
    | some g => right; rw [e]; simp
  · exact Or.inr (fun k => e k.symm)

theorem own_not3 {w : World} {base e n b s : Nat} {v : Value} {xs : List Value} (h : w.ownsRow base e s v n xs) (hb : b < base ∨ w.heap.size ≤ b) : some b ≠ v.ownBlock := by
  intro e
  have h1 := h.lt b e.symm
  omega

theorem Blk.cel2 {w : World} {b : Nat} {t : TypeId} {x0 x1 : Value} {r : List Value} (h : Blk w b t (x0 :: x1 :: r).toArray) : w.cell? ⟨b, 0, none⟩ = some x0 ∧ w.cell? ⟨b, 1, none⟩ = some x1 :=
  ⟨h.cell 0 _ rfl, h.cell 1 _ rfl⟩

theorem Blk.lts2 {w : World} {b : Nat} {t : TypeId} {x0 x1 : Value} {r : List Value} (h : Blk w b t (x0 :: x1 :: r).toArray) : (∀ u : Lat w, u.val.cell? ⟨b, 0, none⟩ = some x0) ∧ (∀ u : Lat w, u.val.cell? ⟨b, 1, none⟩ = some x1) :=
  ⟨h.lat 0 _ rfl, h.lat 1 _ rfl⟩

theorem Blk.frz2 {w : World} {b : Nat} {t : TypeId} {cs : Array Value} (h : Blk w b t cs) : w.frozen? ⟨b, 0, none⟩ = false ∧ w.frozen? ⟨b, 1, none⟩ = false :=
  ⟨h.frozen 0, h.frozen 1⟩

theorem Blk.cel3 {w : World} {b : Nat} {t : TypeId} {x0 x1 x2 : Value} {r : List Value} (h : Blk w b t (x0 :: x1 :: x2 :: r).toArray) : w.cell? ⟨b, 0, none⟩ = some x0 ∧ w.cell? ⟨b, 1, none⟩ = some x1 ∧ w.cell? ⟨b, 2, none⟩ = some x2 :=
  ⟨h.cell 0 _ rfl, h.cell 1 _ rfl, h.cell 2 _ rfl⟩

theorem Blk.lts3 {w : World} {b : Nat} {t : TypeId} {x0 x1 x2 : Value} {r : List Value} (h : Blk w b t (x0 :: x1 :: x2 :: r).toArray) : (∀ u : Lat w, u.val.cell? ⟨b, 0, none⟩ = some x0) ∧ (∀ u : Lat w, u.val.cell? ⟨b, 1, none⟩ = some x1) ∧ (∀ u : Lat w, u.val.cell? ⟨b, 2, none⟩ = some x2) :=
  ⟨h.lat 0 _ rfl, h.lat 1 _ rfl, h.lat 2 _ rfl⟩

theorem Blk.frz3 {w : World} {b : Nat} {t : TypeId} {cs : Array Value} (h : Blk w b t cs) : w.frozen? ⟨b, 0, none⟩ = false ∧ w.frozen? ⟨b, 1, none⟩ = false ∧ w.frozen? ⟨b, 2, none⟩ = false :=
  ⟨h.frozen 0, h.frozen 1, h.frozen 2⟩

theorem Blk.cel4 {w : World} {b : Nat} {t : TypeId} {x0 x1 x2 x3 : Value} {r : List Value} (h : Blk w b t (x0 :: x1 :: x2 :: x3 :: r).toArray) : w.cell? ⟨b, 0, none⟩ = some x0 ∧ w.cell? ⟨b, 1, none⟩ = some x1 ∧ w.cell? ⟨b, 2, none⟩ = some x2 ∧ w.cell? ⟨b, 3, none⟩ = some x3 :=
  ⟨h.cell 0 _ rfl, h.cell 1 _ rfl, h.cell 2 _ rfl, h.cell 3 _ rfl⟩

theorem Blk.lts4 {w : World} {b : Nat} {t : TypeId} {x0 x1 x2 x3 : Value} {r : List Value} (h : Blk w b t (x0 :: x1 :: x2 :: x3 :: r).toArray) : (∀ u : Lat w, u.val.cell? ⟨b, 0, none⟩ = some x0) ∧ (∀ u : Lat w, u.val.cell? ⟨b, 1, none⟩ = some x1) ∧ (∀ u : Lat w, u.val.cell? ⟨b, 2, none⟩ = some x2) ∧ (∀ u : Lat w, u.val.cell? ⟨b, 3, none⟩ = some x3) :=
  ⟨h.lat 0 _ rfl, h.lat 1 _ rfl, h.lat 2 _ rfl, h.lat 3 _ rfl⟩

theorem Blk.frz4 {w : World} {b : Nat} {t : TypeId} {cs : Array Value} (h : Blk w b t cs) : w.frozen? ⟨b, 0, none⟩ = false ∧ w.frozen? ⟨b, 1, none⟩ = false ∧ w.frozen? ⟨b, 2, none⟩ = false ∧ w.frozen? ⟨b, 3, none⟩ = false :=
  ⟨h.frozen 0, h.frozen 1, h.frozen 2, h.frozen 3⟩

theorem Blk.cel5 {w : World} {b : Nat} {t : TypeId} {x0 x1 x2 x3 x4 : Value} {r : List Value} (h : Blk w b t (x0 :: x1 :: x2 :: x3 :: x4 :: r).toArray) : w.cell? ⟨b, 0, none⟩ = some x0 ∧ w.cell? ⟨b, 1, none⟩ = some x1 ∧ w.cell? ⟨b, 2, none⟩ = some x2 ∧ w.cell? ⟨b, 3, none⟩ = some x3 ∧ w.cell? ⟨b, 4, none⟩ = some x4 :=
  ⟨h.cell 0 _ rfl, h.cell 1 _ rfl, h.cell 2 _ rfl, h.cell 3 _ rfl, h.cell 4 _ rfl⟩

theorem Blk.lts5 {w : World} {b : Nat} {t : TypeId} {x0 x1 x2 x3 x4 : Value} {r : List Value} (h : Blk w b t (x0 :: x1 :: x2 :: x3 :: x4 :: r).toArray) : (∀ u : Lat w, u.val.cell? ⟨b, 0, none⟩ = some x0) ∧ (∀ u : Lat w, u.val.cell? ⟨b, 1, none⟩ = some x1) ∧ (∀ u : Lat w, u.val.cell? ⟨b, 2, none⟩ = some x2) ∧ (∀ u : Lat w, u.val.cell? ⟨b, 3, none⟩ = some x3) ∧ (∀ u : Lat w, u.val.cell? ⟨b, 4, none⟩ = some x4) :=
  ⟨h.lat 0 _ rfl, h.lat 1 _ rfl, h.lat 2 _ rfl, h.lat 3 _ rfl, h.lat 4 _ rfl⟩

theorem Blk.frz5 {w : World} {b : Nat} {t : TypeId} {cs : Array Value} (h : Blk w b t cs) : w.frozen? ⟨b, 0, none⟩ = false ∧ w.frozen? ⟨b, 1, none⟩ = false ∧ w.frozen? ⟨b, 2, none⟩ = false ∧ w.frozen? ⟨b, 3, none⟩ = false ∧ w.frozen? ⟨b, 4, none⟩ = false :=
  ⟨h.frozen 0, h.frozen 1, h.frozen 2, h.frozen 3, h.frozen 4⟩

theorem Blk.cel6 {w : World} {b : Nat} {t : TypeId} {x0 x1 x2 x3 x4 x5 : Value} {r : List Value} (h : Blk w b t (x0 :: x1 :: x2 :: x3 :: x4 :: x5 :: r).toArray) : w.cell? ⟨b, 0, none⟩ = some x0 ∧ w.cell? ⟨b, 1, none⟩ = some x1 ∧ w.cell? ⟨b, 2, none⟩ = some x2 ∧ w.cell? ⟨b, 3, none⟩ = some x3 ∧ w.cell? ⟨b, 4, none⟩ = some x4 ∧ w.cell? ⟨b, 5, none⟩ = some x5 :=
  ⟨h.cell 0 _ rfl, h.cell 1 _ rfl, h.cell 2 _ rfl, h.cell 3 _ rfl, h.cell 4 _ rfl, h.cell 5 _ rfl⟩

theorem Blk.lts6 {w : World} {b : Nat} {t : TypeId} {x0 x1 x2 x3 x4 x5 : Value} {r : List Value} (h : Blk w b t (x0 :: x1 :: x2 :: x3 :: x4 :: x5 :: r).toArray) : (∀ u : Lat w, u.val.cell? ⟨b, 0, none⟩ = some x0) ∧ (∀ u : Lat w, u.val.cell? ⟨b, 1, none⟩ = some x1) ∧ (∀ u : Lat w, u.val.cell? ⟨b, 2, none⟩ = some x2) ∧ (∀ u : Lat w, u.val.cell? ⟨b, 3, none⟩ = some x3) ∧ (∀ u : Lat w, u.val.cell? ⟨b, 4, none⟩ = some x4) ∧ (∀ u : Lat w, u.val.cell? ⟨b, 5, none⟩ = some x5) :=
  ⟨h.lat 0 _ rfl, h.lat 1 _ rfl, h.lat 2 _ rfl, h.lat 3 _ rfl, h.lat 4 _ rfl, h.lat 5 _ rfl⟩

theorem Blk.frz6 {w : World} {b : Nat} {t : TypeId} {cs : Array Value} (h : Blk w b t cs) : w.frozen? ⟨b, 0, none⟩ = false ∧ w.frozen? ⟨b, 1, none⟩ = false ∧ w.frozen? ⟨b, 2, none⟩ = false ∧ w.frozen? ⟨b, 3, none⟩ = false ∧ w.frozen? ⟨b, 4, none⟩ = false ∧ w.frozen? ⟨b, 5, none⟩ = false :=
  ⟨h.frozen 0, h.frozen 1, h.frozen 2, h.frozen 3, h.frozen 4, h.frozen 5⟩

theorem Blk.cel7 {w : World} {b : Nat} {t : TypeId} {x0 x1 x2 x3 x4 x5 x6 : Value} {r : List Value} (h : Blk w b t (x0 :: x1 :: x2 :: x3 :: x4 :: x5 :: x6 :: r).toArray) : w.cell? ⟨b, 0, none⟩ = some x0 ∧ w.cell? ⟨b, 1, none⟩ = some x1 ∧ w.cell? ⟨b, 2, none⟩ = some x2 ∧ w.cell? ⟨b, 3, none⟩ = some x3 ∧ w.cell? ⟨b, 4, none⟩ = some x4 ∧ w.cell? ⟨b, 5, none⟩ = some x5 ∧ w.cell? ⟨b, 6, none⟩ = some x6 :=
  ⟨h.cell 0 _ rfl, h.cell 1 _ rfl, h.cell 2 _ rfl, h.cell 3 _ rfl, h.cell 4 _ rfl, h.cell 5 _ rfl, h.cell 6 _ rfl⟩

theorem Blk.lts7 {w : World} {b : Nat} {t : TypeId} {x0 x1 x2 x3 x4 x5 x6 : Value} {r : List Value} (h : Blk w b t (x0 :: x1 :: x2 :: x3 :: x4 :: x5 :: x6 :: r).toArray) : (∀ u : Lat w, u.val.cell? ⟨b, 0, none⟩ = some x0) ∧ (∀ u : Lat w, u.val.cell? ⟨b, 1, none⟩ = some x1) ∧ (∀ u : Lat w, u.val.cell? ⟨b, 2, none⟩ = some x2) ∧ (∀ u : Lat w, u.val.cell? ⟨b, 3, none⟩ = some x3) ∧ (∀ u : Lat w, u.val.cell? ⟨b, 4, none⟩ = some x4) ∧ (∀ u : Lat w, u.val.cell? ⟨b, 5, none⟩ = some x5) ∧ (∀ u : Lat w, u.val.cell? ⟨b, 6, none⟩ = some x6) :=
  ⟨h.lat 0 _ rfl, h.lat 1 _ rfl, h.lat 2 _ rfl, h.lat 3 _ rfl, h.lat 4 _ rfl, h.lat 5 _ rfl, h.lat 6 _ rfl⟩

theorem Blk.frz7 {w : World} {b : Nat} {t : TypeId} {cs : Array Value} (h : Blk w b t cs) : w.frozen? ⟨b, 0, none⟩ = false ∧ w.frozen? ⟨b, 1, none⟩ = false ∧ w.frozen? ⟨b, 2, none⟩ = false ∧ w.frozen? ⟨b, 3, none⟩ = false ∧ w.frozen? ⟨b, 4, none⟩ = false ∧ w.frozen? ⟨b, 5, none⟩ = false ∧ w.frozen? ⟨b, 6, none⟩ = false :=
  ⟨h.frozen 0, h.frozen 1, h.frozen 2, h.frozen 3, h.frozen 4, h.frozen 5, h.frozen 6⟩

theorem Blk.cel8 {w : World} {b : Nat} {t : TypeId} {x0 x1 x2 x3 x4 x5 x6 x7 : Value} {r : List Value} (h : Blk w b t (x0 :: x1 :: x2 :: x3 :: x4 :: x5 :: x6 :: x7 :: r).toArray) : w.cell? ⟨b, 0, none⟩ = some x0 ∧ w.cell? ⟨b, 1, none⟩ = some x1 ∧ w.cell? ⟨b, 2, none⟩ = some x2 ∧ w.cell? ⟨b, 3, none⟩ = some x3 ∧ w.cell? ⟨b, 4, none⟩ = some x4 ∧ w.cell? ⟨b, 5, none⟩ = some x5 ∧ w.cell? ⟨b, 6, none⟩ = some x6 ∧ w.cell? ⟨b, 7, none⟩ = some x7 :=
  ⟨h.cell 0 _ rfl, h.cell 1 _ rfl, h.cell 2 _ rfl, h.cell 3 _ rfl, h.cell 4 _ rfl, h.cell 5 _ rfl, h.cell 6 _ rfl, h.cell 7 _ rfl⟩

theorem Blk.lts8 {w : World} {b : Nat} {t : TypeId} {x0 x1 x2 x3 x4 x5 x6 x7 : Value} {r : List Value} (h : Blk w b t (x0 :: x1 :: x2 :: x3 :: x4 :: x5 :: x6 :: x7 :: r).toArray) : (∀ u : Lat w, u.val.cell? ⟨b, 0, none⟩ = some x0) ∧ (∀ u : Lat w, u.val.cell? ⟨b, 1, none⟩ = some x1) ∧ (∀ u : Lat w, u.val.cell? ⟨b, 2, none⟩ = some x2) ∧ (∀ u : Lat w, u.val.cell? ⟨b, 3, none⟩ = some x3) ∧ (∀ u : Lat w, u.val.cell? ⟨b, 4, none⟩ = some x4) ∧ (∀ u : Lat w, u.val.cell? ⟨b, 5, none⟩ = some x5) ∧ (∀ u : Lat w, u.val.cell? ⟨b, 6, none⟩ = some x6) ∧ (∀ u : Lat w, u.val.cell? ⟨b, 7, none⟩ = some x7) :=
  ⟨h.lat 0 _ rfl, h.lat 1 _ rfl, h.lat 2 _ rfl, h.lat 3 _ rfl, h.lat 4 _ rfl, h.lat 5 _ rfl, h.lat 6 _ rfl, h.lat 7 _ rfl⟩

theorem Blk.frz8 {w : World} {b : Nat} {t : TypeId} {cs : Array Value} (h : Blk w b t cs) : w.frozen? ⟨b, 0, none⟩ = false ∧ w.frozen? ⟨b, 1, none⟩ = false ∧ w.frozen? ⟨b, 2, none⟩ = false ∧ w.frozen? ⟨b, 3, none⟩ = false ∧ w.frozen? ⟨b, 4, none⟩ = false ∧ w.frozen? ⟨b, 5, none⟩ = false ∧ w.frozen? ⟨b, 6, none⟩ = false ∧ w.frozen? ⟨b, 7, none⟩ = false :=
  ⟨h.frozen 0, h.frozen 1, h.frozen 2, h.frozen 3, h.frozen 4, h.frozen 5, h.frozen 6, h.frozen 7⟩

theorem Blk.cel9 {w : World} {b : Nat} {t : TypeId} {x0 x1 x2 x3 x4 x5 x6 x7 x8 : Value} {r : List Value} (h : Blk w b t (x0 :: x1 :: x2 :: x3 :: x4 :: x5 :: x6 :: x7 :: x8 :: r).toArray) : w.cell? ⟨b, 0, none⟩ = some x0 ∧ w.cell? ⟨b, 1, none⟩ = some x1 ∧ w.cell? ⟨b, 2, none⟩ = some x2 ∧ w.cell? ⟨b, 3, none⟩ = some x3 ∧ w.cell? ⟨b, 4, none⟩ = some x4 ∧ w.cell? ⟨b, 5, none⟩ = some x5 ∧ w.cell? ⟨b, 6, none⟩ = some x6 ∧ w.cell? ⟨b, 7, none⟩ = some x7 ∧ w.cell? ⟨b, 8, none⟩ = some x8 :=
  ⟨h.cell 0 _ rfl, h.cell 1 _ rfl, h.cell 2 _ rfl, h.cell 3 _ rfl, h.cell 4 _ rfl, h.cell 5 _ rfl, h.cell 6 _ rfl, h.cell 7 _ rfl, h.cell 8 _ rfl⟩

theorem Blk.lts9 {w : World} {b : Nat} {t : TypeId} {x0 x1 x2 x3 x4 x5 x6 x7 x8 : Value} {r : List Value} (h : Blk w b t (x0 :: x1 :: x2 :: x3 :: x4 :: x5 :: x6 :: x7 :: x8 :: r).toArray) : (∀ u : Lat w, u.val.cell? ⟨b, 0, none⟩ = some x0) ∧ (∀ u : Lat w, u.val.cell? ⟨b, 1, none⟩ = some x1) ∧ (∀ u : Lat w, u.val.cell? ⟨b, 2, none⟩ = some x2) ∧ (∀ u : Lat w, u.val.cell? ⟨b, 3, none⟩ = some x3) ∧ (∀ u : Lat w, u.val.cell? ⟨b, 4, none⟩ = some x4) ∧ (∀ u : Lat w, u.val.cell? ⟨b, 5, none⟩ = some x5) ∧ (∀ u : Lat w, u.val.cell? ⟨b, 6, none⟩ = some x6) ∧ (∀ u : Lat w, u.val.cell? ⟨b, 7, none⟩ = some x7) ∧ (∀ u : Lat w, u.val.cell? ⟨b, 8, none⟩ = some x8) :=
  ⟨h.lat 0 _ rfl, h.lat 1 _ rfl, h.lat 2 _ rfl, h.lat 3 _ rfl, h.lat 4 _ rfl, h.lat 5 _ rfl, h.lat 6 _ rfl, h.lat 7 _ rfl, h.lat 8 _ rfl⟩

theorem Blk.frz9 {w : World} {b : Nat} {t : TypeId} {cs : Array Value} (h : Blk w b t cs) : w.frozen? ⟨b, 0, none⟩ = false ∧ w.frozen? ⟨b, 1, none⟩ = false ∧ w.frozen? ⟨b, 2, none⟩ = false ∧ w.frozen? ⟨b, 3, none⟩ = false ∧ w.frozen? ⟨b, 4, none⟩ = false ∧ w.frozen? ⟨b, 5, none⟩ = false ∧ w.frozen? ⟨b, 6, none⟩ = false ∧ w.frozen? ⟨b, 7, none⟩ = false ∧ w.frozen? ⟨b, 8, none⟩ = false :=
  ⟨h.frozen 0, h.frozen 1, h.frozen 2, h.frozen 3, h.frozen 4, h.frozen 5, h.frozen 6, h.frozen 7, h.frozen 8⟩

end Go.Proofs.Yticfbapipdhhmaa

/- Texts that stand together: data, memory, helpers. No condition. -/
import Derived.WalkKit
import Derived.WalkSpells
import Derived.WalkLawsBesides
import Derived.BigQuiet
import Derived.Handy
import Derived.Test.YtjaoggkpnjkkpaaProg
namespace Go.Proofs.Ytjaoggkpnjkkpaa
open Go.RowKit
set_option linter.unusedVariables false
set_option linter.unusedSimpArgs false

/-- The slice that begins at 'a' reads as the integers zs (of kind k) in w. -/
def Row (k : IntKind) (w : World) (a : Option Addr) (zs : List Int) : Prop :=
  ∀ i, i < zs.length → ∃ b off, a = some ⟨b, off, none⟩ ∧ b < w.heap.size ∧ w.cell? ⟨b, off + i, none⟩ = some (.int k (zs.getD i 0))

theorem Row.nil (k : IntKind) (w : World) (a : Option Addr) : Row k w a [] := fun i h => absurd h (Nat.not_lt_zero _)

theorem Row.below {k : IntKind} {w w' : World} {a : Option Addr} {zs : List Int} (h : Row k w a zs) (hb : Below w.heap.size w w') : Row k w' a zs := by
  intro i hi
  obtain ⟨b, off, ha, hlt, hc⟩ := h i hi
  exact ⟨b, off, ha, Nat.lt_of_lt_of_le hlt hb.size, by rw [hb.cell (p := ⟨b, off + i, none⟩) hlt]; exact hc⟩

theorem Row.own {k : IntKind} {w : World} {base e n c : Nat} {a : Option Addr} {zs : List Int} (h : w.ownsRow base e 1 (.slice a n c) n (zs.map (Value.int k))) : Row k w a zs := by
  have hlen : zs.length = n := by simpa using h.1
  intro i hi
  rcases h.2 with ⟨he, hn⟩ | ⟨g, cap, cur, he, hb, hg, r⟩
  · omega
  · simp only [Value.slice.injEq, true_and] at he
    obtain ⟨rfl, rfl⟩ := he
    refine ⟨g, 0, rfl, (Array.getElem?_eq_some_iff.1 hg).1, ?_⟩
    have := h.cellAt i (by omega)
    rw [Nat.zero_add, this]
    simp [List.getD, hi]

/-- What the frame of a claim tells of a slice that came in, as a Row. -/
theorem row_in {k : IntKind} {w : World} {a : Option Addr} {len cap : Nat} {zs : List Int}
    (h : (a = none ∧ len = 0 ∧ cap = 0 ∧ zs = []) ∨ ∃ x, a = some x ∧ len ≤ cap ∧ cap ≤ maxLen ∧ zs.length = cap ∧ (∀ i, i < zs.length → w.cell? (x.add i) = some (.int k (zs.getD i 0))) ∧ ∀ n ∈ zs, (Lit.int k n).wf = true) :
    ∃ ys : List Int, len = ys.length ∧ ys.length ≤ 9223372036854775807 ∧ Row k w a ys ∧ ∀ n ∈ ys, (Lit.int k n).wf = true := by
  rcases h with ⟨rfl, rfl, rfl, rfl⟩ | ⟨x, rfl, hl, hm, hz, hc, hw⟩
  · exact ⟨[], rfl, by simp, Row.nil _ _ _, by simp⟩
  · refine ⟨zs.take len, by simp; omega, by unfold maxLen at hm; simp; omega, ?_, fun n hn => hw n (List.mem_of_mem_take hn)⟩
    intro i hi
    simp at hi
    have h1 := hc i (by omega)
    obtain ⟨b, off, spot⟩ := x
    have hspot : spot = none := by simpa [Addr.add] using World.cell?_spot (hc 0 (by omega))
    subst hspot
    have h2 : w.cell? ⟨b, off + i, none⟩ = some (.int k (zs.getD i 0)) := by rw [Addr.add_lit] at h1; exact h1
    refine ⟨b, off, rfl, World.block_lt_of_cell? w _ h2, ?_⟩
    rw [h2]
    simp [List.getD, List.getElem?_take, show i < len by omega]

theorem u8_bounds {zs : List Int} (h : ∀ n ∈ zs, (Lit.int .u8 n).wf = true) : ∀ i, 0 ≤ zs.getD i 0 ∧ zs.getD i 0 ≤ 255 := by
  intro i
  by_cases hi : i < zs.length
  · have := h (zs.getD i 0) (by simp [List.getD, hi])
    exact bounds_u8 this
  · simp [List.getD, List.getElem?_eq_none (show zs.length ≤ i by omega)]

/-- Where a call has made new memory only, all that was there reads as before. -/
theorem bcell {W w1 : World} (hb : Below W.heap.size W w1) : (∀ b o, b < W.heap.size → w1.cell? ⟨b, o, none⟩ = W.cell? ⟨b, o, none⟩) ∧ (∀ b o, b < W.heap.size → w1.frozen? ⟨b, o, none⟩ = W.frozen? ⟨b, o, none⟩) :=
  ⟨fun b o h => hb.cell (p := ⟨b, o, none⟩) h, fun b o h => hb.frozen (p := ⟨b, o, none⟩) h⟩

/-- What is owned stays owned behind a call that makes new memory only. -/
theorem own_below {w w' : World} {base e size n : Nat} {v : Value} {xs : List Value} (h : w.ownsRow base e size v n xs) (hb : Below w.heap.size w w') : w'.ownsRow base e size v n xs := by
  refine ⟨h.1, ?_⟩
  rcases h.2 with h2 | ⟨g, cap, cur, hv, hg, hh, r⟩
  · exact Or.inl h2
  · exact Or.inr ⟨g, cap, cur, hv, hg, by rw [hb.block g (Array.getElem?_eq_some_iff.1 hh).1]; exact hh, r⟩

theorem own_shape {w : World} {base e size n : Nat} {v : Value} {xs : List Value} (h : w.ownsRow base e size v n xs) : ∃ a k, v = .slice a n k := by
  rcases h.2 with ⟨rfl, rfl⟩ | ⟨g, cap, cur, rfl, r⟩
  · exact ⟨_, _, rfl⟩
  · exact ⟨_, _, rfl⟩

/-- What is owned from a number on is owned from every smaller one on. -/
theorem own_base {w : World} {base base' e size n : Nat} {v : Value} {xs : List Value} (h : w.ownsRow base e size v n xs) (hb : base' ≤ base) : w.ownsRow base' e size v n xs := by
  refine ⟨h.1, ?_⟩
  rcases h.2 with h2 | ⟨g, cap, cur, hv, hg, r⟩
  · exact Or.inl h2
  · exact Or.inr ⟨g, cap, cur, hv, Nat.le_trans hb hg, r⟩

/-- An answer of two cells lies in its own box, laid first; a list that was made behind it is owned still when the box is filled. -/
theorem ret_box {w w' : World} {e n : Nat} {v : Value} {xs : List Value} {o : Obj} (ho : w'.ownsRow (w.alloc o).heap.size e 1 v n xs) (hb : Below (w.alloc o).heap.size (w.alloc o) w') (x y : Value) :
    ((w'.setCell ⟨w.heap.size, 0, none⟩ x).setCell ⟨w.heap.size, 1, none⟩ y).ownsRow w.heap.size e 1 v n xs ∧ Below w.heap.size w ((w'.setCell ⟨w.heap.size, 0, none⟩ x).setCell ⟨w.heap.size, 1, none⟩ y) := by
  have hs : (w.alloc o).heap.size = w.heap.size + 1 := by simp
  refine ⟨own_base (ownsRow_setCell_below (ownsRow_setCell_below ho (by rw [hs]; exact Nat.lt_succ_self _) _) (by rw [hs]; exact Nat.lt_succ_self _) _) (by omega), ?_⟩
  exact ((((Below.refl _ _).alloc (Nat.le_refl _) o).trans (hb.mono (by omega))).setCell (Nat.le_refl _) _).setCell (Nat.le_refl _) _

/-- Two cells at the head of block b. -/
structure Box (w : World) (b : Nat) (x y : Value) : Prop where
  fst : w.cell? ⟨b, 0, none⟩ = some x
  snd : w.cell? ⟨b, 1, none⟩ = some y

theorem Box.lt {w : World} {b : Nat} {x y : Value} (h : Box w b x y) : b < w.heap.size := World.block_lt_of_cell? w ⟨b, 0, none⟩ h.fst
theorem Box.new (w : World) (x y : Value) (t : TypeId) : Box (w.alloc (.cells #[x, y] t)) w.heap.size x y := ⟨by simp, by simp⟩
theorem Box.below {w w' : World} {b : Nat} {x y : Value} (h : Box w b x y) (hb : Below w.heap.size w w') : Box w' b x y :=
  ⟨by rw [hb.cell (p := ⟨b, 0, none⟩) h.lt]; exact h.fst, by rw [hb.cell (p := ⟨b, 1, none⟩) h.lt]; exact h.snd⟩
theorem Box.alloc {w : World} {b : Nat} {x y : Value} (h : Box w b x y) (o : Obj) : Box (w.alloc o) b x y := h.below ((Below.refl _ _).alloc (Nat.le_refl _) o)
theorem Box.grown {w w' : World} {b : Nat} {x y : Value} {row : Option Nat} (h : Box w b x y) (hg : w.grownBy w' row) (hne : some b ≠ row) : Box w' b x y :=
  ⟨hg.cell h.fst hne, hg.cell h.snd hne⟩

theorem own_apart {w w' : World} {base base' e e' n n' : Nat} {v v' : Value} {xs xs' : List Value} (h : w.ownsRow base e 1 v n xs) (h' : w'.ownsRow base' e' 1 v' n' xs') (hb : w.heap.size ≤ base') : v.ownBlock = none ∨ v.ownBlock ≠ v'.ownBlock := by
  cases hv : v.ownBlock with
  | none => exact Or.inl rfl
  | some g =>
    right
    intro e
    have h1 := (h.lt g hv).2
    have h2 := (h'.lt g e.symm).1
    omega

theorem own_apart' {w w' : World} {base base' e e' n n' : Nat} {v v' : Value} {xs xs' : List Value} (h : w.ownsRow base e 1 v n xs) (h' : w'.ownsRow base' e' 1 v' n' xs') (hb : w.heap.size ≤ base') : v'.ownBlock = none ∨ v'.ownBlock ≠ v.ownBlock := by
  rcases own_apart h h' hb with e | e
  · cases hv : v'.ownBlock with
    | none => exact Or.inl rfl
    | some g => right; rw [e]; simp
  · exact Or.inr (fun k => e k.symm)

theorem own_not {w : World} {base e n b : Nat} {v : Value} {xs : List Value} (h : w.ownsRow base e 1 v n xs) (hb : b < base ∨ w.heap.size ≤ b) : some b ≠ v.ownBlock := by
  intro e
  have h1 := h.lt b e.symm
  omega

/-- The marks: from c on, counted up, as the kind k holds them. -/
def marks (k : IntKind) (c : Int) (n : Nat) : List Int := (List.range n).map fun (i : Nat) => k.wrap (c + (i : Int))

theorem marks_length (k : IntKind) (c : Int) (n : Nat) : (marks k c n).length = n := by simp [marks]

theorem marks_getD (k : IntKind) (c : Int) (n i : Nat) (h : i < n) : (marks k c n).getD i 0 = k.wrap (c + (i : Int)) := by simp [marks, List.getD, h]

theorem marks_get (k : IntKind) (c : Int) (n i : Nat) (h : i < n) : (marks k c n)[i]?.getD 0 = k.wrap (c + (i : Int)) := by simp [marks, h]

/-- A list whose head is written over, place by place. -/
def laid (zs : List Int) (k : IntKind) (xs : List Value) (i : Nat) : List Value := (zs.take i).map (Value.int k) ++ xs.drop i

theorem laid_zero (zs : List Int) (k : IntKind) (xs : List Value) : laid zs k xs 0 = xs := by simp [laid]

theorem laid_all (zs : List Int) (k : IntKind) (xs : List Value) (h : xs.length = zs.length) : laid zs k xs zs.length = zs.map (Value.int k) := by
  have : xs.drop zs.length = [] := List.drop_of_length_le (by omega)
  simp [laid, this]

theorem laid_step (zs : List Int) (k : IntKind) (xs : List Value) (i : Nat) (h : xs.length = zs.length) (hi : i < zs.length) : (laid zs k xs i).set i (.int k (zs.getD i 0)) = laid zs k xs (i + 1) := by
  apply List.ext_getElem?
  intro j
  simp only [laid, List.getElem?_set, List.getElem?_append, List.length_append, List.length_map, List.length_take, List.length_drop, List.getElem?_map, List.getElem?_drop, List.getElem?_take]
  by_cases hj : j = i
  · subst hj
    simp [Nat.min_eq_left (Nat.le_of_lt hi), hi, h, List.getD, Nat.min_eq_left (show j + 1 ≤ zs.length by omega)]
    omega
  · rw [if_neg (by omega)]
    rw [Nat.min_eq_left (by omega), Nat.min_eq_left (by omega)]
    by_cases hlt : j < i
    · simp [hlt, show j < i + 1 by omega]
    · rw [if_neg hlt, if_neg (by omega)]
      congr 1; omega

theorem laid_length (zs : List Int) (k : IntKind) (xs : List Value) (i : Nat) (h : xs.length = zs.length) (hi : i ≤ zs.length) : (laid zs k xs i).length = xs.length := by
  simp [laid]; omega

end Go.Proofs.Ytjaoggkpnjkkpaa

namespace Go.Proofs.Ytjaoggkpnjkkpaa
open Go.RowKit
set_option linter.unusedVariables false
set_option linter.unusedSimpArgs false

theorem infoU8 : (Try.prog.info? 5).map (fun i => (i.zero, i.size, i.bytes)) = some (some (.int .u8 0), 1, 1) := by kernel_rfl

end Go.Proofs.Ytjaoggkpnjkkpaa

namespace Go.Proofs.Ytjaoggkpnjkkpaa
open Go.RowKit
set_option linter.unusedVariables false
set_option linter.unusedSimpArgs false

theorem infoI64 : (Try.prog.info? 2).map (fun i => (i.zero, i.size, i.bytes)) = some (some (.int .i64 0), 1, 8) := by kernel_rfl

end Go.Proofs.Ytjaoggkpnjkkpaa

namespace Go.Proofs.Ytjaoggkpnjkkpaa
open Go.RowKit
set_option linter.unusedVariables false
set_option linter.unusedSimpArgs false

end Go.Proofs.Ytjaoggkpnjkkpaa

namespace Go.Proofs.Ytjaoggkpnjkkpaa
open Go.RowKit
set_option linter.unusedVariables false
set_option linter.unusedSimpArgs false

/-- Does v lie from lo to hi? -/
def inB (v lo hi : Int) : Bool := decide (lo ≤ v ∧ v ≤ hi)
/-- Is n a short number? -/
def shortB (n : Int) : Bool := inB n (-32768) 32767
theorem short_of {n : Int} (h : shortB n = true) : -32768 ≤ n ∧ n ≤ 32767 := of_decide_eq_true h
theorem short_not {n : Int} (h : shortB n = false) : ¬ (-32768 ≤ n ∧ n ≤ 32767) := of_decide_eq_false h
theorem short_mk {n : Int} (h : -32768 ≤ n ∧ n ≤ 32767) : shortB n = true := decide_eq_true h
theorem short_mkn {n : Int} (h : ¬ (-32768 ≤ n ∧ n ≤ 32767)) : shortB n = false := decide_eq_false h

/-- The two bytes of a number, the higher one first. -/
def put2 (n : Int) : List Int := [n % 65536 / 256, n % 256]

set_option maxHeartbeats 1000000 in
theorem l1In_any (v lo hi : Int) (w : World) :
    Calls Try.prog 86 #[.int .i64 v, .int .i64 lo, .int .i64 hi] w fun e w' => e = .returned (.bool (inB v lo hi)) ∧ w' = w := by
  by_cases h1 : lo ≤ v <;> by_cases h2 : v ≤ hi
  all_goals
    go_enter Try.func86, Try.ntmps86
    go_wp2
    go_ret
    exact ⟨by simp [inB, h1, h2], rfl⟩

/-- What is told of a number: its bytes, or a code. -/
def putC (n : Int) : Int := if shortB n then 0 else 3
def putL (n : Int) : List Int := if shortB n then put2 n else []

theorem u16_wrap (n : Int) : IntKind.u16.wrap n = n % 65536 := by
  simp [IntKind.wrap, IntKind.bits, IntKind.signed]

theorem below_of_grown {w w' : World} (h : w.grownBy w' (Value.slice none 0 0).ownBlock) : Below w.heap.size w w' :=
  ⟨h.os, h.tape, h.output, h.size, fun k hk => h.block k hk (by simp [Value.ownBlock])⟩

end Go.Proofs.Ytjaoggkpnjkkpaa

namespace Go.Proofs.Ytjaoggkpnjkkpaa
open Go.RowKit
set_option linter.unusedVariables false
set_option linter.unusedSimpArgs false

theorem own_some {w : World} {base e n k : Nat} {a : Option Addr} {xs : List Value} (h : w.ownsRow base e 1 (.slice a n k) n xs) (hn : 0 < n) : ∃ g, a = some ⟨g, 0, none⟩ := by
  rcases h.2 with ⟨he, h0⟩ | ⟨g, cap, cur, he, r⟩
  · omega
  · simp only [Value.slice.injEq] at he
    exact ⟨g, he.1⟩

/-- How many, and the bytes of the first k. -/
def packL (zs : List Int) (k : Nat) : List Int := (zs.length : Int) :: (zs.take k).flatMap put2
theorem packL_succ (zs : List Int) (k : Nat) (h : k < zs.length) : packL zs (k + 1) = packL zs k ++ put2 (zs.getD k 0) := by
  have e : zs.getD k 0 = zs[k] := by simp [List.getD, h]
  rw [packL, packL, List.take_succ_eq_append_getElem h, e]
  simp only [List.flatMap_append, List.flatMap_cons, List.flatMap_nil, List.append_nil, List.cons_append]
theorem packL_length (zs : List Int) (k : Nat) (h : k ≤ zs.length) : (packL zs k).length = 1 + 2 * k := by
  induction k with
  | zero => simp [packL]
  | succ k ih =>
    rw [packL_succ zs k h, List.length_append, ih (by omega)]
    simp [put2]; omega
def packC (zs : List Int) : Int := if 40 < zs.length then 2 else if zs.all shortB then 0 else 3
def packR (zs : List Int) : List Int := if 40 < zs.length then [] else if zs.all shortB then packL zs zs.length else []
theorem pack_many {zs : List Int} (h : 40 < zs.length) : packC zs = 2 ∧ packR zs = [] := by simp [packC, packR, h]
theorem pack_ok {zs : List Int} (h : ¬ 40 < zs.length) (ha : ∀ j, j < zs.length → shortB (zs.getD j 0) = true) : packC zs = 0 ∧ packR zs = packL zs zs.length := by
  have e : zs.all shortB = true := by
    rw [List.all_eq_true]
    intro x hx
    obtain ⟨j, hj, rfl⟩ := List.mem_iff_getElem.1 hx
    have := ha j hj
    simpa [List.getD, hj] using this
  simp [packC, packR, h, e]
theorem pack_bad {zs : List Int} (h : ¬ 40 < zs.length) (j : Nat) (hj : j < zs.length) (hb : shortB (zs.getD j 0) = false) : packC zs = 3 ∧ packR zs = [] := by
  have e : zs.all shortB = false := by
    rw [List.all_eq_false]
    refine ⟨zs[j], List.getElem_mem hj, ?_⟩
    simpa [List.getD, hj] using hb
  simp [packC, packR, h, e]
theorem packR_le (zs : List Int) : (packR zs).length ≤ 81 := by
  unfold packR
  split
  · simp
  · split
    · rw [packL_length _ _ (Nat.le_refl _)]; omega
    · simp

end Go.Proofs.Ytjaoggkpnjkkpaa

namespace Go.Proofs.Ytjaoggkpnjkkpaa
open Go.RowKit
set_option linter.unusedVariables false
set_option linter.unusedSimpArgs false

/-- A source of draws at block b: bytes that lie below block B, and a count of at most T. -/
def Src (B : Nat) (w : World) (b : Nat) (T : Nat) : Prop :=
  ∃ (a : Option Addr) (zs : List Int) (cap t : Nat), B ≤ b ∧ b < w.heap.size ∧ w.cell? ⟨b, 0, none⟩ = some (.slice a zs.length cap) ∧ w.cell? ⟨b, 1, none⟩ = some (.int .i64 (t : Int)) ∧ w.frozen? ⟨b, 1, none⟩ = false ∧
    t ≤ T ∧ zs.length ≤ 1048576 ∧ (∀ i, 0 ≤ zs.getD i 0 ∧ zs.getD i 0 ≤ 255) ∧ (∀ i, i < zs.length → ∃ b' off, a = some ⟨b', off, none⟩ ∧ b' < B ∧ w.cell? ⟨b', off + i, none⟩ = some (.int .u8 (zs.getD i 0)))

theorem Src.lt {B b T : Nat} {w : World} (h : Src B w b T) : B ≤ b ∧ b < w.heap.size := by
  obtain ⟨a, zs, cap, t, h1, h2, _⟩ := h
  exact ⟨h1, h2⟩

/-- A source lasts while its block, and all below B, read as before. -/
theorem Src.kept {B b T : Nat} {w w' : World} (h : Src B w b T) (hs : w.heap.size ≤ w'.heap.size) (hb : w'.heap[b]? = w.heap[b]?) (hB : ∀ k, k < B → w'.heap[k]? = w.heap[k]?) : Src B w' b T := by
  obtain ⟨a, zs, cap, t, h1, h2, h3, h4, h5, h6, h7, h8, h9⟩ := h
  refine ⟨a, zs, cap, t, h1, Nat.lt_of_lt_of_le h2 hs, ?_, ?_, ?_, h6, h7, h8, ?_⟩
  · rw [World.cell?_of_block (w := w) (a := ⟨b, 0, none⟩) hb]; exact h3
  · rw [World.cell?_of_block (w := w) (a := ⟨b, 1, none⟩) hb]; exact h4
  · rw [World.frozen?_of_block (w := w) (a := ⟨b, 1, none⟩) hb]; exact h5
  · intro i hi
    obtain ⟨b', off, e1, e2, e3⟩ := h9 i hi
    exact ⟨b', off, e1, e2, by rw [World.cell?_of_block (w := w) (a := ⟨b', off + i, none⟩) (hB b' e2)]; exact e3⟩

theorem Src.below {B b T : Nat} {w w' : World} (h : Src B w b T) (hb : Below w.heap.size w w') : Src B w' b T :=
  h.kept hb.size (hb.block b h.lt.2) (fun k hk => hb.block k (by have := h.lt; omega))

theorem Src.mono {B b T T' : Nat} {w : World} (h : Src B w b T) (hT : T ≤ T') : Src B w b T' := by
  obtain ⟨a, zs, cap, t, h1, h2, h3, h4, h5, h6, r⟩ := h
  exact ⟨a, zs, cap, t, h1, h2, h3, h4, h5, Nat.le_trans h6 hT, r⟩

/-- The count goes one up. -/
theorem Src.step {B b T : Nat} {w : World} {a : Option Addr} {zs : List Int} {cap t : Nat} (h1 : B ≤ b) (h2 : b < w.heap.size) (h3 : w.cell? ⟨b, 0, none⟩ = some (.slice a zs.length cap)) (h4 : w.cell? ⟨b, 1, none⟩ = some (.int .i64 (t : Int))) (h5 : w.frozen? ⟨b, 1, none⟩ = false)
    (h6 : t ≤ T) (h7 : zs.length ≤ 1048576) (h8 : ∀ i, 0 ≤ zs.getD i 0 ∧ zs.getD i 0 ≤ 255) (h9 : ∀ i, i < zs.length → ∃ b' off, a = some ⟨b', off, none⟩ ∧ b' < B ∧ w.cell? ⟨b', off + i, none⟩ = some (.int .u8 (zs.getD i 0))) :
    Src B (w.setCell ⟨b, 1, none⟩ (.int .i64 ((t : Int) + 1))) b (T + 1) ∧ w.grownBy (w.setCell ⟨b, 1, none⟩ (.int .i64 ((t : Int) + 1))) (some b) := by
  refine ⟨⟨a, zs, cap, t + 1, h1, by simpa using h2, ?_, ?_, ?_, by omega, h7, h8, ?_⟩, ⟨rfl, rfl, rfl, by simp, fun k _ hk => Below.heap_setCell w _ _ k (fun e => hk (by simp [e]))⟩⟩
  · go_cell
  · rw [World.cell?_setCell_same _ _ _ h4]; simp
  · rw [World.frozen?_setCell]; exact h5
  · intro i hi
    obtain ⟨b', off, e1, e2, e3⟩ := h9 i hi
    refine ⟨b', off, e1, e2, ?_⟩
    rw [World.cell?_of_block (w := w) (a := ⟨b', off + i, none⟩) (Below.heap_setCell w _ _ b' (by simp; omega))]
    exact e3

/-- A draw out of n: from 0 to n - 1, and 0 where n is below 1. -/
def InR (n r : Int) : Prop := 0 ≤ r ∧ (1 ≤ n → r < n) ∧ (n < 1 → r = 0)
theorem InR.mod (x n : Int) (h : 1 ≤ n) : InR n (x % n) := ⟨Int.emod_nonneg _ (by omega), fun _ => Int.emod_lt_of_pos _ (by omega), fun k => by omega⟩

set_option maxHeartbeats 2000000 in
theorem next_any (B b T : Nat) (n : Int) (w : World) (hS : Src B w b T) (hT : T ≤ 1099511627776) (hn : n ≤ 1099511627776) :
    Calls Try.prog 54 #[.pointer (some ⟨b, 0, none⟩), .int .i64 n] w fun e w' => ∃ r : Int, e = .returned (.int .i64 r) ∧ InR n r ∧ Src B w' b (T + 1) ∧ w.grownBy w' (some b) := by
  obtain ⟨a, zs, cap, t, h1, h2, h3, h4, h5, h6, h7, h8, h9⟩ := hS
  obtain ⟨r1, r2⟩ := Src.step h1 h2 h3 h4 h5 h6 h7 h8 h9
  have R1 : Hid (Src B (w.setCell ⟨b, 1, none⟩ (.int .i64 ((t : Int) + 1))) b (T + 1)) := r1
  have R2 : Hid (w.grownBy (w.setCell ⟨b, 1, none⟩ (.int .i64 ((t : Int) + 1))) (some b)) := r2
  clear r1 r2
  by_cases hn1 : n < 1
  · go_enter Try.func54, Try.ntmps54
    go_wp2
    go_ret
    exact ⟨0, rfl, ⟨by omega, by omega, fun _ => rfl⟩, R1.out, R2.out⟩
  · by_cases hz : zs.length = 0
    · have hz' : ((zs.length : Int) == 0) = true := by simp [hz]
      clear h9 hz h7
      go_enter Try.func54, Try.ntmps54
      go_wp2
      go_ret
      exact ⟨_, rfl, InR.mod _ _ (by omega), R1.out, R2.out⟩
    · have hz' : ((zs.length : Int) == 0) = false := by rw [beq_eq_false_iff_ne]; omega
      have hpos : 0 < zs.length := by omega
      have hm1 : t % zs.length < zs.length := Nat.mod_lt _ hpos
      have hm2 : (t + 1) % zs.length < zs.length := Nat.mod_lt _ hpos
      have c1 : ∃ b' off, a = some ⟨b', off, none⟩ ∧ (w.setCell ⟨b, 1, none⟩ (.int .i64 ((t : Int) + 1))).cell? ⟨b', off + t % zs.length, none⟩ = some (.int .u8 (zs.getD (t % zs.length) 0)) ∧ (w.setCell ⟨b, 1, none⟩ (.int .i64 ((t : Int) + 1))).cell? ⟨b', off + (t + 1) % zs.length, none⟩ = some (.int .u8 (zs.getD ((t + 1) % zs.length) 0)) := by
        obtain ⟨b', off, rfl, e2, e3⟩ := h9 _ hm1
        obtain ⟨b2, off2, e4, e5, e6⟩ := h9 _ hm2
        simp only [Option.some.injEq, Addr.mk.injEq, and_true] at e4
        obtain ⟨rfl, rfl⟩ := e4
        refine ⟨b', off, rfl, ?_, ?_⟩
        · rw [World.cell?_of_block (w := w) (a := ⟨b', _, none⟩) (Below.heap_setCell w _ _ b' (by simp; omega))]; exact e3
        · rw [World.cell?_of_block (w := w) (a := ⟨b', _, none⟩) (Below.heap_setCell w _ _ b' (by simp; omega))]; exact e6
      obtain ⟨b', off, rfl, c1, c2⟩ := c1
      have u1 := h8 (t % zs.length)
      have u2 := h8 ((t + 1) % zs.length)
      have hq : (t : Int) / (zs.length : Int) ≤ 1099511627776 := Int.le_trans (Int.ediv_le_self _ (by omega)) (by omega)
      have hq0 : 0 ≤ (t : Int) / (zs.length : Int) := Int.ediv_nonneg (by omega) (by omega)
      generalize zs.getD (t % zs.length) 0 = x at c1 u1
      generalize zs.getD ((t + 1) % zs.length) 0 = y at c2 u2
      have m0 : 0 ≤ ((t : Int) + 1) % (zs.length : Int) := Int.emod_nonneg _ (by omega)
      have m1 : ((t : Int) + 1) % (zs.length : Int) < (zs.length : Int) := Int.emod_lt_of_pos _ (by omega)
      clear h8 h9 hz
      by_cases h200 : 200 < n
      · go_enter Try.func54, Try.ntmps54
        go_wp2
        go_quiet (fail)
        go_wp2
        go_quiet (fail)
        go_wp2
        go_ret
        exact ⟨_, rfl, InR.mod _ _ (by omega), R1.out.below (below_drewN (Below.refl _ _) _), R2.out.trans ⟨rfl, rfl, rfl, Nat.le_refl _, fun _ _ _ => rfl⟩⟩
      · go_enter Try.func54, Try.ntmps54
        go_wp2
        go_quiet (fail)
        go_wp2
        go_ret
        exact ⟨_, rfl, InR.mod _ _ (by omega), R1.out.below (below_drewN (Below.refl _ _) _), R2.out.trans ⟨rfl, rfl, rfl, Nat.le_refl _, fun _ _ _ => rfl⟩⟩

set_option maxHeartbeats 1000000 in
theorem source_any (B : Nat) (a : Option Addr) (cap : Nat) (zs : List Int) (w : World) (hB : B ≤ w.heap.size) (hl : zs.length ≤ 1048576) (hu : ∀ i, 0 ≤ zs.getD i 0 ∧ zs.getD i 0 ≤ 255)
    (h : ∀ i, i < zs.length → ∃ b' off, a = some ⟨b', off, none⟩ ∧ b' < B ∧ w.cell? ⟨b', off + i, none⟩ = some (.int .u8 (zs.getD i 0))) :
    Calls Try.prog 48 #[.slice a zs.length cap] w fun e w' => e = .returned (.pointer (some ⟨w.heap.size, 0, none⟩)) ∧ Src B w' w.heap.size 0 ∧ Below w.heap.size w w' := by
  go_enter Try.func48, Try.ntmps48
  go_wp2
  go_ret
  refine ⟨rfl, ⟨a, zs, cap, 0, hB, by simp, by simp, by simp, by simp, Nat.le_refl _, hl, hu, ?_⟩, by go_grown⟩
  intro i hi
  obtain ⟨b', off, e1, e2, e3⟩ := h i hi
  refine ⟨b', off, e1, e2, ?_⟩
  rw [World.cell?_of_block (w := w) (a := ⟨b', off + i, none⟩) (Below.heap_alloc w _ b' (by omega))]
  exact e3

set_option maxHeartbeats 1000000 in
theorem pick_any (B b T base : Nat) (v : Value) (xs : List Int) (w : World) (hS : Src B w b T) (hT : T ≤ 1099511627776) (ho : w.ownsRow base 2 1 v xs.length (xs.map (Value.int .i64))) (hx : xs ≠ []) (hlen : xs.length ≤ 100) (hne : some b ≠ v.ownBlock) :
    Calls Try.prog 81 #[.pointer (some ⟨b, 0, none⟩), v] w fun e w' => ∃ r : Int, e = .returned (.int .i64 r) ∧ r ∈ xs ∧ Src B w' b (T + 1) ∧ w.grownBy w' (some b) := by
  obtain ⟨a, k, rfl⟩ := own_shape ho
  have hpos : 0 < xs.length := List.length_pos_iff.2 hx
  have hn := next_any B b T (xs.length : Int) w hS hT (by omega)
  go_enter Try.func81, Try.ntmps81
  go_wp2_with fail
  refine hn.mono ?_
  rintro e w' ⟨r, rfl, hr, hS', hg⟩
  obtain ⟨j, rfl⟩ := Int.eq_ofNat_of_zero_le hr.1
  have hj : j < xs.length := by have := hr.2.1 (by omega); omega
  have ho' := ho.kept hg (Or.inr (fun e => hne e.symm))
  obtain ⟨b2, off2, rfl, hb2, hc2⟩ := Row.own ho' j hj
  have hmem : xs.getD j 0 ∈ xs := by simp [List.getD, hj]
  generalize xs.getD j 0 = x at hc2 hmem
  clear hr ho ho' hn
  go_wp2
  go_ret
  exact ⟨x, rfl, hmem, hS', hg⟩

end Go.Proofs.Ytjaoggkpnjkkpaa

namespace Go.Proofs.Ytjaoggkpnjkkpaa
open Go.RowKit
set_option linter.unusedVariables false
set_option linter.unusedSimpArgs false

/-- What is written into rows other than the source's, and into new memory, leaves the source. -/
theorem Src.grown {B b T : Nat} {w w' : World} {row : Option Nat} (h : Src B w b T) (hg : w.grownBy w' row) (hne : some b ≠ row) (hB : ∀ k, row = some k → B ≤ k) : Src B w' b T :=
  h.kept hg.size (hg.block b h.lt.2 hne) (fun k hk => hg.block k (by have := h.lt; omega) (fun e => by have := hB k e.symm; omega))

theorem grown_of_below {w w' : World} (h : Below w.heap.size w w') (row : Option Nat) : w.grownBy w' row := ⟨h.os, h.tape, h.output, h.size, fun k hk _ => h.block k hk⟩

theorem below_of_src {w w' w1 : World} {b : Nat} (hb : Below w.heap.size w w1) (hg : w1.grownBy w' (some b)) (h : w.heap.size ≤ b) : Below w.heap.size w w' :=
  hb.grown hg hb.size (fun k hk => by simp at hk; omega)

end Go.Proofs.Ytjaoggkpnjkkpaa

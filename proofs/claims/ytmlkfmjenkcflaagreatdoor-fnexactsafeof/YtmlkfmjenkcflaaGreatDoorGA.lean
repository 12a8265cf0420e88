/- Plain notions for all walks of this seat: when a slice can be read as a list of integers, what the given marks are, and how these facts last through later worlds. No condition. -/
import Derived.WalkKit
import Derived.WalkSpells
import Derived.WalkLawsBesides
import Derived.BigQuiet
import Derived.Handy
import Derived.Test.YtmlkfmjenkcflaaGreatDoorProg
namespace Go.Proofs.YtmlkfmjenkcflaaGreatDoor
open Go.RowKit
set_option linter.unusedVariables false
set_option maxRecDepth 100000
set_option linter.unusedSimpArgs false

theorem pjE {α : Type} : (∀ (l : List α) (i : Nat) (a : α), l.toArray.setIfInBounds i a = (l.set i a).toArray) ∧ (∀ (l : List α) (x a : α), (x :: l).set 0 a = a :: l) ∧ (∀ (l : List α) (x a : α) (n : Nat), (x :: l).set (n + 1) a = x :: l.set n a) :=
  ⟨fun _ _ _ => List.setIfInBounds_toArray .., fun _ _ _ => rfl, fun _ _ _ _ => rfl⟩

theorem pgE {α : Type} : (∀ (l : List α) (i : Nat) (h : i < l.toArray.size), l.toArray[i] = l[i]'(by simpa using h)) ∧ (∀ (l : List α) (x : α) (i : Nat) (h : i + 1 < (x :: l).length), (x :: l)[i + 1] = l[i]'(Nat.lt_of_succ_lt_succ h)) ∧ (∀ (l : List α) (x : α) (h : 0 < (x :: l).length), (x :: l)[0] = x) :=
  ⟨fun _ _ _ => List.getElem_toArray .., fun _ _ _ _ => List.getElem_cons_succ .., fun _ _ _ => rfl⟩

/-- The slice that begins at 'a' reads as the integers zs (of kind k) in w. -/
def Row (k : IntKind) (w : World) (a : Option Addr) (zs : List Int) : Prop :=
  ∀ i, i < zs.length → ∃ b off, a = some ⟨b, off, none⟩ ∧ b < w.heap.size ∧ w.cell? ⟨b, off + i, none⟩ = some (.int k (zs.getD i 0))

theorem Row.nil (k : IntKind) (w : World) (a : Option Addr) : Row k w a [] := fun i h => absurd h (Nat.not_lt_zero _)

theorem Row.below {k : IntKind} {w w' : World} {a : Option Addr} {zs : List Int} (h : Row k w a zs) (hb : Below w.heap.size w w') : Row k w' a zs := by
  intro i hi
  obtain ⟨b, off, ha, hlt, hc⟩ := h i hi
  exact ⟨b, off, ha, Nat.lt_of_lt_of_le hlt hb.size, by rw [hb.cell (p := ⟨b, off + i, none⟩) hlt]; exact hc⟩

theorem Row.own {k : IntKind} {w : World} {base e n c : Nat} {a : Option Addr} {zs : List Int} (h : w.ownsRow base e 1 (.slice a n c) n (zs.map (Value.int k))) : Row k w a zs := by
  have hlen : zs.length = n := by simpa using h.1
  intro i hi
  rcases h.2 with ⟨he, hn⟩ | ⟨g, cap, cur, he, hb, hg, r⟩
  · omega
  · simp only [Value.slice.injEq, true_and] at he
    obtain ⟨rfl, rfl⟩ := he
    refine ⟨g, 0, rfl, (Array.getElem?_eq_some_iff.1 hg).1, ?_⟩
    have := h.cellAt i (by omega)
    rw [Nat.zero_add, this]
    simp [List.getD, hi]

/-- What the frame of a claim tells of a slice that came in, as a Row. -/
theorem row_in {k : IntKind} {w : World} {a : Option Addr} {len cap : Nat} {zs : List Int}
    (h : (a = none ∧ len = 0 ∧ cap = 0 ∧ zs = []) ∨ ∃ x, a = some x ∧ len ≤ cap ∧ cap ≤ maxLen ∧ zs.length = cap ∧ (∀ i, i < zs.length → w.cell? (x.add i) = some (.int k (zs.getD i 0))) ∧ ∀ n ∈ zs, (Lit.int k n).wf = true) :
    ∃ ys : List Int, len = ys.length ∧ ys.length ≤ 9223372036854775807 ∧ Row k w a ys ∧ ∀ n ∈ ys, (Lit.int k n).wf = true := by
  rcases h with ⟨rfl, rfl, rfl, rfl⟩ | ⟨x, rfl, hl, hm, hz, hc, hw⟩
  · exact ⟨[], rfl, by simp, Row.nil _ _ _, by simp⟩
  · refine ⟨zs.take len, by simp; omega, by unfold maxLen at hm; simp; omega, ?_, fun n hn => hw n (List.mem_of_mem_take hn)⟩
    intro i hi
    simp at hi
    have h1 := hc i (by omega)
    obtain ⟨b, off, spot⟩ := x
    have hspot : spot = none := by simpa [Addr.add] using World.cell?_spot (hc 0 (by omega))
    subst hspot
    have h2 : w.cell? ⟨b, off + i, none⟩ = some (.int k (zs.getD i 0)) := by rw [Addr.add_lit] at h1; exact h1
    refine ⟨b, off, rfl, World.block_lt_of_cell? w _ h2, ?_⟩
    rw [h2]
    simp [List.getD, List.getElem?_take, show i < len by omega]

theorem u8_bounds {zs : List Int} (h : ∀ n ∈ zs, (Lit.int .u8 n).wf = true) : ∀ i, 0 ≤ zs.getD i 0 ∧ zs.getD i 0 ≤ 255 := by
  intro i
  by_cases hi : i < zs.length
  · have := h (zs.getD i 0) (by simp [List.getD, hi])
    exact bounds_u8 this
  · simp [List.getD, List.getElem?_eq_none (show zs.length ≤ i by omega)]

/-- Where a call has made new memory only, all that was there reads as before. -/
theorem bcell {W w1 : World} (hb : Below W.heap.size W w1) : (∀ b o, b < W.heap.size → w1.cell? ⟨b, o, none⟩ = W.cell? ⟨b, o, none⟩) ∧ (∀ b o, b < W.heap.size → w1.frozen? ⟨b, o, none⟩ = W.frozen? ⟨b, o, none⟩) :=
  ⟨fun b o h => hb.cell (p := ⟨b, o, none⟩) h, fun b o h => hb.frozen (p := ⟨b, o, none⟩) h⟩

/-- What is owned stays owned behind a call that makes new memory only. -/
theorem own_below {w w' : World} {base e size n : Nat} {v : Value} {xs : List Value} (h : w.ownsRow base e size v n xs) (hb : Below w.heap.size w w') : w'.ownsRow base e size v n xs := by
  refine ⟨h.1, ?_⟩
  rcases h.2 with h2 | ⟨g, cap, cur, hv, hg, hh, r⟩
  · exact Or.inl h2
  · exact Or.inr ⟨g, cap, cur, hv, hg, by rw [hb.block g (Array.getElem?_eq_some_iff.1 hh).1]; exact hh, r⟩

theorem own_shape {w : World} {base e size n : Nat} {v : Value} {xs : List Value} (h : w.ownsRow base e size v n xs) : ∃ a k, v = .slice a n k := by
  rcases h.2 with ⟨rfl, rfl⟩ | ⟨g, cap, cur, rfl, r⟩
  · exact ⟨_, _, rfl⟩
  · exact ⟨_, _, rfl⟩

/-- What is owned from a number on is owned from every smaller one on. -/
theorem own_base {w : World} {base base' e size n : Nat} {v : Value} {xs : List Value} (h : w.ownsRow base e size v n xs) (hb : base' ≤ base) : w.ownsRow base' e size v n xs := by
  refine ⟨h.1, ?_⟩
  rcases h.2 with h2 | ⟨g, cap, cur, hv, hg, r⟩
  · exact Or.inl h2
  · exact Or.inr ⟨g, cap, cur, hv, Nat.le_trans hb hg, r⟩

/-- An answer of two cells lies in its own box, laid first; a list that was made behind it is owned still when the box is filled. -/
theorem ret_box {w w' : World} {e n : Nat} {v : Value} {xs : List Value} {o : Obj} (ho : w'.ownsRow (w.alloc o).heap.size e 1 v n xs) (hb : Below (w.alloc o).heap.size (w.alloc o) w') (x y : Value) :
    ((w'.setCell ⟨w.heap.size, 0, none⟩ x).setCell ⟨w.heap.size, 1, none⟩ y).ownsRow w.heap.size e 1 v n xs ∧ Below w.heap.size w ((w'.setCell ⟨w.heap.size, 0, none⟩ x).setCell ⟨w.heap.size, 1, none⟩ y) := by
  have hs : (w.alloc o).heap.size = w.heap.size + 1 := by simp
  refine ⟨own_base (ownsRow_setCell_below (ownsRow_setCell_below ho (by rw [hs]; exact Nat.lt_succ_self _) _) (by rw [hs]; exact Nat.lt_succ_self _) _) (by omega), ?_⟩
  exact ((((Below.refl _ _).alloc (Nat.le_refl _) o).trans (hb.mono (by omega))).setCell (Nat.le_refl _) _).setCell (Nat.le_refl _) _

/-- Two cells at the head of block b. -/
structure Box (w : World) (b : Nat) (x y : Value) : Prop where
  fst : w.cell? ⟨b, 0, none⟩ = some x
  snd : w.cell? ⟨b, 1, none⟩ = some y

theorem Box.lt {w : World} {b : Nat} {x y : Value} (h : Box w b x y) : b < w.heap.size := World.block_lt_of_cell? w ⟨b, 0, none⟩ h.fst
theorem Box.new (w : World) (x y : Value) (t : TypeId) : Box (w.alloc (.cells #[x, y] t)) w.heap.size x y := ⟨by simp, by simp⟩
theorem Box.below {w w' : World} {b : Nat} {x y : Value} (h : Box w b x y) (hb : Below w.heap.size w w') : Box w' b x y :=
  ⟨by rw [hb.cell (p := ⟨b, 0, none⟩) h.lt]; exact h.fst, by rw [hb.cell (p := ⟨b, 1, none⟩) h.lt]; exact h.snd⟩
theorem Box.alloc {w : World} {b : Nat} {x y : Value} (h : Box w b x y) (o : Obj) : Box (w.alloc o) b x y := h.below ((Below.refl _ _).alloc (Nat.le_refl _) o)
theorem Box.grown {w w' : World} {b : Nat} {x y : Value} {row : Option Nat} (h : Box w b x y) (hg : w.grownBy w' row) (hne : some b ≠ row) : Box w' b x y :=
  ⟨hg.cell h.fst hne, hg.cell h.snd hne⟩

theorem own_apart {w w' : World} {base base' e e' n n' : Nat} {v v' : Value} {xs xs' : List Value} (h : w.ownsRow base e 1 v n xs) (h' : w'.ownsRow base' e' 1 v' n' xs') (hb : w.heap.size ≤ base') : v.ownBlock = none ∨ v.ownBlock ≠ v'.ownBlock := by
  cases hv : v.ownBlock with
  | none => exact Or.inl rfl
  | some g =>
    right
    intro e
    have h1 := (h.lt g hv).2
    have h2 := (h'.lt g e.symm).1
    omega

theorem own_apart' {w w' : World} {base base' e e' n n' : Nat} {v v' : Value} {xs xs' : List Value} (h : w.ownsRow base e 1 v n xs) (h' : w'.ownsRow base' e' 1 v' n' xs') (hb : w.heap.size ≤ base') : v'.ownBlock = none ∨ v'.ownBlock ≠ v.ownBlock := by
  rcases own_apart h h' hb with e | e
  · cases hv : v'.ownBlock with
    | none => exact Or.inl rfl
    | some g => right; rw [e]; simp
  · exact Or.inr (fun k => e k.symm)

theorem own_not {w : World} {base e n b : Nat} {v : Value} {xs : List Value} (h : w.ownsRow base e 1 v n xs) (hb : b < base ∨ w.heap.size ≤ b) : some b ≠ v.ownBlock := by
  intro e
  have h1 := h.lt b e.symm
  omega

/-- The marks: from c on, counted up, as the kind k holds them. -/
def marks (k : IntKind) (c : Int) (n : Nat) : List Int := (List.range n).map fun (i : Nat) => k.wrap (c + (i : Int))

theorem marks_length (k : IntKind) (c : Int) (n : Nat) : (marks k c n).length = n := by simp [marks]

theorem marks_getD (k : IntKind) (c : Int) (n i : Nat) (h : i < n) : (marks k c n).getD i 0 = k.wrap (c + (i : Int)) := by simp [marks, List.getD, h]

theorem marks_get (k : IntKind) (c : Int) (n i : Nat) (h : i < n) : (marks k c n)[i]?.getD 0 = k.wrap (c + (i : Int)) := by simp [marks, h]

/-- A list whose head is written over, place by place. -/
def laid (zs : List Int) (k : IntKind) (xs : List Value) (i : Nat) : List Value := (zs.take i).map (Value.int k) ++ xs.drop i

theorem laid_zero (zs : List Int) (k : IntKind) (xs : List Value) : laid zs k xs 0 = xs := by simp [laid]

theorem laid_all (zs : List Int) (k : IntKind) (xs : List Value) (h : xs.length = zs.length) : laid zs k xs zs.length = zs.map (Value.int k) := by
  have : xs.drop zs.length = [] := List.drop_of_length_le (by omega)
  simp [laid, this]

theorem laid_step (zs : List Int) (k : IntKind) (xs : List Value) (i : Nat) (h : xs.length = zs.length) (hi : i < zs.length) : (laid zs k xs i).set i (.int k (zs.getD i 0)) = laid zs k xs (i + 1) := by
  apply List.ext_getElem?
  intro j
  simp only [laid, List.getElem?_set, List.getElem?_append, List.length_append, List.length_map, List.length_take, List.length_drop, List.getElem?_map, List.getElem?_drop, List.getElem?_take]
  by_cases hj : j = i
  · subst hj
    simp [Nat.min_eq_left (Nat.le_of_lt hi), hi, h, List.getD, Nat.min_eq_left (show j + 1 ≤ zs.length by omega)]
    omega
  · rw [if_neg (by omega)]
    rw [Nat.min_eq_left (by omega), Nat.min_eq_left (by omega)]
    by_cases hlt : j < i
    · simp [hlt, show j < i + 1 by omega]
    · rw [if_neg hlt, if_neg (by omega)]
      congr 1; omega

theorem laid_length (zs : List Int) (k : IntKind) (xs : List Value) (i : Nat) (h : xs.length = zs.length) (hi : i ≤ zs.length) : (laid zs k xs i).length = xs.length := by
  simp [laid]; omega

end Go.Proofs.YtmlkfmjenkcflaaGreatDoor

/- What the helpers of the laws on lists of bytes do: they copy, compare, mark and look for marks. Each is told for whatever list that can be read; the copying one for lists of at most 1048576 bytes. -/
namespace Go.Proofs.YtmlkfmjenkcflaaGreatDoor
open Go.RowKit
set_option linter.unusedVariables false
set_option maxRecDepth 100000
set_option linter.unusedSimpArgs false

theorem infoU8 : (Tryz.prog.info? 5).map (fun i => (i.zero, i.size, i.bytes)) = some (some (.int .u8 0), 1, 1) := by kernel_rfl

end Go.Proofs.YtmlkfmjenkcflaaGreatDoor

/- What the helpers of the laws on lists of int64 do: they copy, compare, mark and look for marks. Each is told for whatever list that can be read; the copying one for lists of at most 1048576 numbers. -/
namespace Go.Proofs.YtmlkfmjenkcflaaGreatDoor
open Go.RowKit
set_option linter.unusedVariables false
set_option maxRecDepth 100000
set_option linter.unusedSimpArgs false

theorem infoI64 : (Tryz.prog.info? 2).map (fun i => (i.zero, i.size, i.bytes)) = some (some (.int .i64 0), 1, 8) := by kernel_rfl

set_option maxHeartbeats 1000000 in
theorem toI_any (a : Option Addr) (cap : Nat) (zs : List Int) (w : World) (h : Row .i64 w a zs) (hl : zs.length ≤ 1048576) :
    Calls Tryz.prog 16 #[.slice a zs.length cap] w fun e w' => ∃ g c, e = .returned (.slice (some ⟨g, 0, none⟩) zs.length c) ∧
      w'.ownsRow w.heap.size 2 1 (.slice (some ⟨g, 0, none⟩) zs.length c) zs.length (zs.map (Value.int .i64)) ∧ Below w.heap.size w w' := by
  obtain ⟨i0, hi, hz0, hz1, hz2⟩ := info_parts infoI64
  have hbytes : i0.bytes * zs.length ≤ 281474976710656 := by rw [hz2]; omega
  have hmax : zs.length ≤ maxLen := by unfold maxLen; omega
  go_enter Tryz.func16, Tryz.ntmps16
  go_wp2_with (at_make; refine wpList_make_full _ rfl _ _ 24 rfl w.heap.size 2 i0 (.int .i64 0) 1 Tryz.underlying24 hi hz0 hz1 _ _ _ _ zs.length rfl rfl rfl rfl hbytes hmax (Nat.le_refl _) ?_)
  intro w1 hown hgrow
  have hlen0 : (madeCells #[Value.int .i64 0] zs.length).toList.length = zs.length := by simp [size_madeCells]
  have hb1 : Below w.heap.size w w1 := (Below.refl _ _).grown hgrow (Nat.le_refl _) (by simp)
  generalize (madeCells #[Value.int .i64 0] zs.length).toList = ys at hown hlen0
  rw [← laid_zero zs .i64 ys] at hown
  go_wp2
  go_loopw [4] (fun i wr => ∃ k : Nat, k ≤ zs.length ∧ i = .int .i64 k ∧ wr.ownsRow w.heap.size 2 1 (.slice (some ⟨w.heap.size, 0, none⟩) zs.length zs.length) zs.length (laid zs .i64 ys k) ∧ Below w.heap.size w wr) (fun i _ => zs.length - (intOf i).toNat)
  case atStart => exact ⟨0, Nat.zero_le _, rfl, hown, hb1⟩
  case round =>
    obtain ⟨k, hk, rfl, ho, hb⟩ := hrel
    by_cases hlt : k < zs.length
    · obtain ⟨b, off, rfl, hbs, hc⟩ := h k hlt
      have hc1 : wr.cell? ⟨b, off + k, none⟩ = some (.int .i64 (zs.getD k 0)) := by rw [hb.cell (p := ⟨b, off + k, none⟩) hbs]; exact hc
      have hfz : wr.frozen? ⟨w.heap.size, k, none⟩ = false := ho.frozenAt k
      obtain ⟨u, hu⟩ : ∃ u, wr.cell? ⟨w.heap.size, k, none⟩ = some u := by
        rw [ho.cellAt k (by omega)]
        exact ⟨_, List.getElem?_eq_getElem (by rw [laid_length _ _ _ _ hlen0 hk, hlen0]; exact hlt)⟩
      have hst := ho.stored k (.int .i64 (zs.getD k 0))
      rw [laid_step zs .i64 ys k hlen0 hlt] at hst
      generalize zs.getD k 0 = z at hst hc1
      have R : Hid ((wr.setCell ⟨w.heap.size, k, none⟩ (.int .i64 z)).ownsRow w.heap.size 2 1 (.slice (some ⟨w.heap.size, 0, none⟩) zs.length zs.length) zs.length (laid zs .i64 ys (k + 1)) ∧ Below w.heap.size w (wr.setCell ⟨w.heap.size, k, none⟩ (.int .i64 z))) := ⟨hst.1, hb.setCell (Nat.le_refl _) _⟩
      clear hst hc
      go_wp2
      go_roundw
      case rel => exact ⟨k + 1, by omega, by go_num, R.out.1, R.out.2⟩
      case measure => simp [intOf]; omega
    · go_wp2
      go_ret
      have hkl : k = zs.length := by omega
      subst hkl
      rw [laid_all zs .i64 ys hlen0] at ho
      exact ⟨_, _, rfl, ho, hb⟩

set_option maxHeartbeats 1000000 in
theorem eqI_true (a a' : Option Addr) (cap cap' : Nat) (zs : List Int) (w : World) (h : Row .i64 w a zs) (h' : Row .i64 w a' zs) (hl : zs.length ≤ 1099511627776) :
    Calls Tryz.prog 23 #[.slice a zs.length cap, .slice a' zs.length cap'] w fun e w' => e = .returned (.bool true) ∧ ∃ n, w' = w.drewN n := by
  go_enter Tryz.func23, Tryz.ntmps23
  go_wp2
  go_loopw [5] (fun i wr => ∃ k m : Nat, k ≤ zs.length ∧ i = .int .i64 k ∧ wr = w.drewN m) (fun i _ => zs.length - (intOf i).toNat)
  case atStart => exact ⟨0, 0, Nat.zero_le _, rfl, rfl⟩
  case round =>
    obtain ⟨k, m, hk, rfl, rfl⟩ := hrel
    by_cases hlt : k < zs.length
    · obtain ⟨b, off, rfl, hbs, hc⟩ := h k hlt
      obtain ⟨b', off', rfl, hbs', hc'⟩ := h' k hlt
      generalize zs.getD k 0 = z at hc hc'
      have hne : (z != z) = false := by simp
      go_wp2
      go_quiet (fail)
      go_wp2
      go_roundw
      case rel => exact ⟨k + 1, _, by omega, by go_num, rfl⟩
      case measure => simp [intOf]; omega
    · go_wp2
      go_ret
      exact ⟨rfl, _, rfl⟩

end Go.Proofs.YtmlkfmjenkcflaaGreatDoor

/- What the helpers of the laws on whole answers do (a code beside a number, bytes or a list of numbers): they tell alike answers alike, mark an answer's memory and find the marks. No condition but that the lists can be read and are not longer than 2^40. -/
namespace Go.Proofs.YtmlkfmjenkcflaaGreatDoor
open Go.RowKit
set_option linter.unusedVariables false
set_option maxRecDepth 100000
set_option linter.unusedSimpArgs false

end Go.Proofs.YtmlkfmjenkcflaaGreatDoor

/- What the number functions of the program and of its model do, one contract a function: put, get, and whether a number is a short one. -/
namespace Go.Proofs.YtmlkfmjenkcflaaGreatDoor
open Go.RowKit
set_option linter.unusedVariables false
set_option maxRecDepth 100000
set_option linter.unusedSimpArgs false

/-- Does v lie from lo to hi? -/
def inB (v lo hi : Int) : Bool := decide (lo ≤ v ∧ v ≤ hi)
/-- Is n a short number? -/
def shortB (n : Int) : Bool := inB n (-32768) 32767
theorem short_of {n : Int} (h : shortB n = true) : -32768 ≤ n ∧ n ≤ 32767 := of_decide_eq_true h
theorem short_not {n : Int} (h : shortB n = false) : ¬ (-32768 ≤ n ∧ n ≤ 32767) := of_decide_eq_false h
theorem short_mk {n : Int} (h : -32768 ≤ n ∧ n ≤ 32767) : shortB n = true := decide_eq_true h
theorem short_mkn {n : Int} (h : ¬ (-32768 ≤ n ∧ n ≤ 32767)) : shortB n = false := decide_eq_false h

/-- The two bytes of a number, the higher one first. -/
def put2 (n : Int) : List Int := [n % 65536 / 256, n % 256]

set_option maxHeartbeats 1000000 in
theorem l1In_any (v lo hi : Int) (w : World) :
    Calls Tryz.prog 53 #[.int .i64 v, .int .i64 lo, .int .i64 hi] w fun e w' => e = .returned (.bool (inB v lo hi)) ∧ w' = w := by
  by_cases h1 : lo ≤ v <;> by_cases h2 : v ≤ hi
  all_goals
    go_enter Tryz.func53, Tryz.ntmps53
    go_wp2
    go_ret
    exact ⟨by simp [inB, h1, h2], rfl⟩

set_option maxHeartbeats 1000000 in
theorem within_any (n lo hi : Int) (w : World) :
    Calls Tryz.prog 70 #[.int .i64 n, .int .i64 lo, .int .i64 hi] w fun e w' => e = .returned (.bool (inB n lo hi)) ∧ w' = w := by
  by_cases h1 : lo ≤ n <;> by_cases h2 : n ≤ hi
  all_goals
    go_enter Tryz.func70, Tryz.ntmps70
    go_wp2
    go_ret
    exact ⟨by simp [inB, h1, h2], rfl⟩

/-- What is told of a number: its bytes, or a code. -/
def putC (n : Int) : Int := if shortB n then 0 else 3
def putL (n : Int) : List Int := if shortB n then put2 n else []

theorem u16_wrap (n : Int) : IntKind.u16.wrap n = n % 65536 := by
  simp [IntKind.wrap, IntKind.bits, IntKind.signed]

theorem below_of_grown {w w' : World} (h : w.grownBy w' (Value.slice none 0 0).ownBlock) : Below w.heap.size w w' :=
  ⟨h.os, h.tape, h.output, h.size, fun k hk => h.block k hk (by simp [Value.ownBlock])⟩

end Go.Proofs.YtmlkfmjenkcflaaGreatDoor

/- What BitsOf of the program and of its model do at whatever mask: the same list of bits, the same code. -/
namespace Go.Proofs.YtmlkfmjenkcflaaGreatDoor
open Go.RowKit
set_option linter.unusedVariables false
set_option maxRecDepth 100000
set_option linter.unusedSimpArgs false

theorem infoI64' : (Tryz.prog.info? 2).map (fun i => (i.zero, i.size, i.bytes)) = some (some (.int .i64 0), 1, 8) := by kernel_rfl

/-- Has m the bit k? -/
def bitB (m : Int) (k : Nat) : Bool := decide (m / 2 ^ k % 2 = 1)
/-- The bits of m below k, rising. -/
def bitsL (m : Int) (k : Nat) : List Int := ((List.range k).filter (bitB m)).map fun (i : Nat) => (i : Int)
theorem bitsL_zero (m : Int) : bitsL m 0 = [] := rfl
theorem bitsL_yes (m : Int) (k : Nat) (h : bitB m k = true) : bitsL m (k + 1) = bitsL m k ++ [(k : Int)] := by simp [bitsL, List.range_succ, List.filter_append, h]
theorem bitsL_no (m : Int) (k : Nat) (h : bitB m k = false) : bitsL m (k + 1) = bitsL m k := by simp [bitsL, List.range_succ, List.filter_append, h]
theorem bitsL_le (m : Int) (k : Nat) : (bitsL m k).length ≤ k := by
  have := List.length_filter_le (bitB m) (List.range k)
  simpa [bitsL] using this

theorem bit_rem (m : Int) (k : Nat) (h : 0 ≤ m) : ((m / 2 ^ k).tmod 2 == 1) = bitB m k := by
  have h2 : 0 ≤ m / 2 ^ k := Int.ediv_nonneg h (by exact Int.le_of_lt (Int.pow_pos (by decide)))
  rw [Int.tmod_eq_emod_of_nonneg h2]
  simp [bitB, Bool.beq_eq_decide_eq]

set_option maxHeartbeats 1000000 in
theorem l1Has_any (m : Int) (k : Nat) (w : World) (h0 : 0 ≤ m) (h1 : m ≤ 65535) (hk : k < 16) :
    Calls Tryz.prog 40 #[.int .i64 m, .int .i64 k] w fun e w' => e = .returned (.bool (bitB m k)) ∧ w' = w := by
  go_enter Tryz.func40, Tryz.ntmps40
  go_wp2
  go_ret
  exact ⟨by simp [bit_rem m k h0], rfl⟩

set_option maxHeartbeats 1000000 in
theorem l1Bits_any (m : Int) (w : World) (h0 : 0 ≤ m) (h1 : m ≤ 65535) :
    Calls Tryz.prog 102 #[.int .i64 m] w fun e w' => ∃ a c, e = .returned (.slice a (bitsL m 16).length c) ∧ w'.ownsRow w.heap.size 2 1 (.slice a (bitsL m 16).length c) (bitsL m 16).length ((bitsL m 16).map (Value.int .i64)) ∧ Below w.heap.size w w' := by
  obtain ⟨i0, hi, hz0, hz1, hz2⟩ := info_parts infoI64'
  go_enter Tryz.func102, Tryz.ntmps102
  go_wp2
  go_loopw [3, 4] (fun v i wr => ∃ k : Nat, k ≤ 16 ∧ i = .int .i64 k ∧ wr.ownsRow w.heap.size 2 1 v (bitsL m k).length ((bitsL m k).map (Value.int .i64)) ∧ Below w.heap.size w wr) (fun _ i _ => 16 - (intOf i).toNat)
  case atStart => exact ⟨0, Nat.zero_le _, rfl, World.ownsRow_lit w #[] 0 (Nat.le_refl _) (by decide) rfl, by go_grown⟩
  case round =>
    obtain ⟨k, hk, rfl, ho, hb⟩ := hrel
    have hlen := bitsL_le m k
    have hsz := hb.size
    by_cases hlt : k < 16
    · by_cases hbit : bitB m k = true
      · go_wp2_with (first | (go_at_call 40; refine (l1Has_any m k _ h0 h1 hlt).mono ?_; rintro e w' ⟨rfl, rfl⟩) | (at_builtin; refine wpList_append_own _ rfl _ _ 24 rfl w.heap.size 2 i0 (.int .i64 0) 1 8 Tryz.underlying24 hi hz0 hz1 hz2 rfl (by decide) _ _ _ rfl (ho.alloc _) ⟨_, 0, none⟩ 1 1 [.int .i64 k] rfl rfl ?c1 ?c2 ?c3 ?c4 ?c5 ?_))
        case c1 => exact cell_one_new _ _ _
        case c2 => intro u hu; simp at hu; subst hu; rfl
        case c3 => unfold maxLen; omega
        case c4 => omega
        case c5 => simp; omega
        intro v' w1 hown hgrow _
        have R : Hid (w1.ownsRow w.heap.size 2 1 v' (bitsL m (k + 1)).length ((bitsL m (k + 1)).map (Value.int .i64)) ∧ Below w.heap.size w w1) := by
          rw [bitsL_yes m k hbit]
          exact ⟨by simpa using hown, (hb.alloc hb.size _).grown hgrow (by simp; omega) (fun j hj => (ho.lt j hj).1)⟩
        clear hown hgrow ho
        go_wp2
        go_roundw
        case rel => exact ⟨k + 1, by omega, by go_num, R.out.1, R.out.2⟩
        case measure => simp [intOf]; omega
      · have hbit' : bitB m k = false := by simpa using hbit
        clear hbit
        rw [← bitsL_no m k hbit'] at ho
        go_wp2_with (first | (go_at_call 40; refine (l1Has_any m k _ h0 h1 hlt).mono ?_; rintro e w' ⟨rfl, rfl⟩))
        go_roundw
        case rel => exact ⟨k + 1, by omega, by go_num, ho, hb⟩
        case measure => simp [intOf]; omega
    · have hkl : k = 16 := by omega
      subst hkl
      obtain ⟨a1, c1, rfl⟩ := own_shape ho
      go_wp2
      go_ret
      exact ⟨_, _, rfl, ho, hb⟩

/-- What is told of a mask: its bits, or a code. -/
def bitsC (m : Int) : Int := if 0 ≤ m ∧ m ≤ 65535 then 0 else 3
def bitsR (m : Int) : List Int := if 0 ≤ m ∧ m ≤ 65535 then bitsL m 16 else []
theorem bitsR_le (m : Int) : (bitsR m).length ≤ 16 := by
  unfold bitsR
  split
  · exact bitsL_le m 16
  · simp

theorem and_one (x : Int) (h0 : 0 ≤ x) (h1 : x ≤ 65535) : bits .and .i64 x 1 = x % 2 := by
  obtain ⟨p, rfl⟩ := Int.eq_ofNat_of_zero_le h0
  have e1 : (1 : Int) = ((1 : Nat) : Int) := rfl
  rw [e1]
  simp only [bits, BitVec.toNat_and, BitVec.ofInt_natCast, BitVec.toNat_ofNat]
  have k1 : p % 2 ^ IntKind.i64.bits = p := Nat.mod_eq_of_lt (by simp [IntKind.bits]; omega)
  have k2 : 1 % 2 ^ IntKind.i64.bits = 1 := Nat.mod_eq_of_lt (by simp [IntKind.bits])
  rw [k1, k2, Nat.and_one_is_mod, IntWalk.i64_in _ (by omega)]
  omega

theorem shr_bounds (m : Int) (k : Nat) (h0 : 0 ≤ m) (h1 : m ≤ 65535) : 0 ≤ m / 2 ^ k ∧ m / 2 ^ k ≤ 65535 := by
  refine ⟨Int.ediv_nonneg h0 (Int.le_of_lt (Int.pow_pos (by decide))), ?_⟩
  exact Int.le_trans (Int.ediv_le_self _ h0) h1

theorem bit_and (m : Int) (k : Nat) (h0 : 0 ≤ m) (h1 : m ≤ 65535) : (bits .and .i64 (m / 2 ^ k) 1 == 1) = bitB m k := by
  obtain ⟨a, b⟩ := shr_bounds m k h0 h1
  rw [and_one _ a b]
  simp [bitB, Bool.beq_eq_decide_eq]

end Go.Proofs.YtmlkfmjenkcflaaGreatDoor

/- Chapter 5 in plain words: votes, counts, quorums, what is proposed and what is gone on with. -/
namespace Go.Proofs.YtmlkfmjenkcflaaGreatDoor
open Go.RowKit
set_option linter.unusedVariables false
set_option maxRecDepth 100000
set_option linter.unusedSimpArgs false

/-- Is x a vote, by most? -/
def vOk (most x : Int) : Bool := inB x 0 most || x == 3
/-- The fault of a row of votes, by most. -/
def vf (zs : List Int) (most : Int) : Int := if zs.length = 3 then (if zs.all (vOk most) then 0 else 3) else 2
def vfault (zs : List Int) (most : Int) : Int := if inB most 1 2 then vf zs most else 3
/-- The sum of three bits. -/
def sum3 (p q r : Bool) : Int := p.toNat + q.toNat + r.toNat
/-- How many of the low three bits m has. -/
def pop3 (m : Int) : Int := sum3 (bitB m 0) (bitB m 1) (bitB m 2)
/-- How many nodes of m voted v. -/
def cnt (m : Int) (zs : List Int) (v : Int) : Int := sum3 (bitB m 0 && (zs.getD 0 0 == v)) (bitB m 1 && (zs.getD 1 0 == v)) (bitB m 2 && (zs.getD 2 0 == v))
/-- The mask of all that voted v. -/
def vot3 (p q r : Bool) : Int := p.toNat + 2 * q.toNat + 4 * r.toNat
def vot (zs : List Int) (v : Int) : Int := vot3 (zs.getD 0 0 == v) (zs.getD 1 0 == v) (zs.getD 2 0 == v)
def isQ (m : Int) : Bool := inB m 0 7 && decide (2 ≤ pop3 m)
def cvC (zs : List Int) (m v : Int) : Int := if vf zs 2 = 0 then (if inB m 0 7 && inB v 0 3 then 0 else 3) else vf zs 2
def cvV (zs : List Int) (m v : Int) : Int := if cvC zs m v = 0 then cnt m zs v else 0

theorem eight {m : Int} (h : inB m 0 7 = true) : m = 0 ∨ m = 1 ∨ m = 2 ∨ m = 3 ∨ m = 4 ∨ m = 5 ∨ m = 6 ∨ m = 7 := by
  have := of_decide_eq_true h
  omega
theorem three {zs : List Int} (h : zs.length = 3) : ∃ x y z, zs = [x, y, z] := by
  match zs, h with
  | [x, y, z], _ => exact ⟨x, y, z, rfl⟩
theorem vf_len {zs : List Int} {most : Int} (h : vf zs most = 0) : zs.length = 3 := by
  unfold vf at h
  split at h
  · assumption
  · simp at h
theorem vot3_in (p q r : Bool) : inB (vot3 p q r) 0 7 = true := by cases p <;> cases q <;> cases r <;> decide
theorem vot_in (zs : List Int) (v : Int) : inB (vot zs v) 0 7 = true := vot3_in _ _ _
theorem and_vot3 (p q r : Bool) : ∀ m ∈ [(0 : Int), 1, 2, 3, 4, 5, 6, 7], inB (bits .and .i64 m (vot3 p q r)) 0 7 = true ∧ pop3 (bits .and .i64 m (vot3 p q r)) = sum3 (bitB m 0 && p) (bitB m 1 && q) (bitB m 2 && r) ∧ ((bits .and .i64 m (vot3 p q r)) == 0) = (sum3 (bitB m 0 && p) (bitB m 1 && q) (bitB m 2 && r) == 0) := by
  cases p <;> cases q <;> cases r <;> decide +kernel
theorem and_vot {m : Int} (h : inB m 0 7 = true) (zs : List Int) (v : Int) : inB (bits .and .i64 m (vot zs v)) 0 7 = true ∧ pop3 (bits .and .i64 m (vot zs v)) = cnt m zs v ∧ ((bits .and .i64 m (vot zs v)) == 0) = (cnt m zs v == 0) := by
  refine and_vot3 _ _ _ m ?_
  rcases eight h with rfl | rfl | rfl | rfl | rfl | rfl | rfl | rfl <;> simp
theorem sum3_in (p q r : Bool) : 0 ≤ sum3 p q r ∧ sum3 p q r ≤ 3 := by cases p <;> cases q <;> cases r <;> decide
theorem cnt_in (m : Int) (zs : List Int) (v : Int) : 0 ≤ cnt m zs v ∧ cnt m zs v ≤ 3 := sum3_in _ _ _
theorem bits16 {m : Int} (h : inB m 0 7 = true) : ((bitsL m 16).length : Int) = pop3 m := by
  rcases eight h with rfl | rfl | rfl | rfl | rfl | rfl | rfl | rfl <;> decide +kernel

end Go.Proofs.YtmlkfmjenkcflaaGreatDoor

/- What the program's functions of chapter 5 do that need no table: masks, votes and their counts. -/
namespace Go.Proofs.YtmlkfmjenkcflaaGreatDoor
open Go.RowKit
set_option linter.unusedVariables false
set_option maxRecDepth 100000
set_option linter.unusedSimpArgs false

set_option maxHeartbeats 1000000 in
theorem isMask_any (m : Int) (w : World) :
    Calls Tryz.prog 112 #[.int .i64 m] w fun e w' => e = .returned (.bool (inB m 0 7)) ∧ w' = w := by
  go_enter Tryz.func112, Tryz.ntmps112
  go_wp2_with (go_at_call 70; refine (within_any _ _ _ _).mono ?_; rintro e w' ⟨rfl, rfl⟩)
  go_ret
  exact ⟨rfl, rfl⟩

set_option maxHeartbeats 4000000 in
theorem nodesIn_any (m : Int) (w : World) (h : inB m 0 7 = true) :
    Calls Tryz.prog 76 #[.int .i64 m] w fun e w' => e = .returned (.int .i64 (pop3 m)) ∧ w' = w := by
  rcases eight h with rfl | rfl | rfl | rfl | rfl | rfl | rfl | rfl
  all_goals
    clear h
    go_enter Tryz.func76, Tryz.ntmps76
    go_wp2
    go_ret
    exact ⟨by kernel_rfl, rfl⟩

set_option maxHeartbeats 1000000 in
theorem isQuorum_any (m : Int) (w : World) :
    Calls Tryz.prog 109 #[.int .i64 m] w fun e w' => e = .returned (.bool (isQ m)) ∧ w' = w := by
  by_cases h : inB m 0 7 = true
  · have hn := fun w => nodesIn_any m w h
    go_enter Tryz.func109, Tryz.ntmps109
    go_wp2_with (first | (go_at_call 112; refine (isMask_any _ _).mono ?_; rintro e w' ⟨rfl, rfl⟩) | (go_at_call 76; refine (hn _).mono ?_; rintro e w' ⟨rfl, rfl⟩))
    go_ret
    exact ⟨by simp [isQ, h], rfl⟩
  · have h' : inB m 0 7 = false := by simpa using h
    clear h
    go_enter Tryz.func109, Tryz.ntmps109
    go_wp2_with (go_at_call 112; refine (isMask_any _ _).mono ?_; rintro e w' ⟨rfl, rfl⟩)
    go_ret
    exact ⟨by simp [isQ, h'], rfl⟩

theorem take_all (zs : List Int) (p : Int → Bool) (k : Nat) (h : (zs.take k).all p = true) (hk : k < zs.length) (hx : p (zs.getD k 0) = true) : (zs.take (k + 1)).all p = true := by
  rw [List.take_succ_eq_append_getElem hk, List.all_append, h]
  have e : zs[k] = zs.getD k 0 := by simp [List.getD, hk]
  rw [e, List.all_cons, hx]
  rfl
theorem not_all (zs : List Int) (p : Int → Bool) (k : Nat) (hk : k < zs.length) (hx : p (zs.getD k 0) = false) : zs.all p = false := by
  rw [List.all_eq_false]
  exact ⟨zs.getD k 0, by simp [List.getD, hk], by rw [hx]; decide⟩

set_option maxHeartbeats 2000000 in
theorem votesFault_any (a : Option Addr) (cap : Nat) (zs : List Int) (most : Int) (w : World) (h : Row .i64 w a zs) (hm : zs.length ≤ 9223372036854775807) :
    Calls Tryz.prog 58 #[.slice a zs.length cap, .int .i64 most] w fun e w' => e = .returned (.int .i64 (vfault zs most)) ∧ w' = w := by
  by_cases hin : inB most 1 2 = true
  · by_cases hl : zs.length = 3
    · have e0 : vfault zs most = if zs.all (vOk most) then 0 else 3 := by simp [vfault, vf, hin, hl]
      have E1 : Hid (zs.all (vOk most) = true → vfault zs most = 0) := fun h => by rw [e0, h]; rfl
      have E2 : Hid (zs.all (vOk most) = false → vfault zs most = 3) := fun h => by rw [e0, h]; rfl
      clear e0
      generalize vfault zs most = E at E1 E2 ⊢
      have hl' : ((zs.length : Int) != 3) = false := by simp [hl]
      go_enter Tryz.func58, Tryz.ntmps58
      go_wp2_with (go_at_call 70; refine (within_any _ _ _ _).mono ?_; rintro e w' ⟨rfl, rfl⟩)
      go_loop [15] (fun i => ∃ k : Nat, k ≤ zs.length ∧ i = .int .i64 k ∧ (zs.take k).all (vOk most) = true) (fun i => zs.length - (intOf i).toNat)
      case atStart => exact ⟨0, Nat.zero_le _, rfl, by simp⟩
      case round =>
        obtain ⟨k, hk, rfl, hall⟩ := hrel
        by_cases hlt : k < zs.length
        · obtain ⟨b, off, rfl, hbs, hc⟩ := h k hlt
          have hT : Hid (vOk most (zs.getD k 0) = true → (zs.take (k + 1)).all (vOk most) = true) := fun hx => take_all zs _ k hall hlt hx
          have hF : Hid (vOk most (zs.getD k 0) = false → zs.all (vOk most) = false) := fun hx => not_all zs _ k hlt hx
          clear hall
          generalize zs.getD k 0 = z at hc hT hF
          by_cases h1 : inB z 0 most = true
          · have hx : vOk most z = true := by simp [vOk, h1]
            have R : Hid ((zs.take (k + 1)).all (vOk most) = true) := hT.out hx
            clear hT hF hx
            go_wp2_with (go_at_call 70; refine (within_any _ _ _ _).mono ?_; rintro e w' ⟨rfl, rfl⟩)
            go_round
            case rel => exact ⟨k + 1, by omega, by go_num, R.out⟩
            case measure => simp [intOf]; omega
          · have h1' : inB z 0 most = false := by simpa using h1
            clear h1
            by_cases h3 : z = 3
            · subst h3
              have hx : vOk most 3 = true := by simp [vOk]
              have R : Hid ((zs.take (k + 1)).all (vOk most) = true) := hT.out hx
              clear hT hF hx
              go_wp2_with (go_at_call 70; refine (within_any _ _ _ _).mono ?_; rintro e w' ⟨rfl, rfl⟩)
              go_round
              case rel => exact ⟨k + 1, by omega, by go_num, R.out⟩
              case measure => simp [intOf]; omega
            · have h3' : (z != 3) = true := by simpa using h3
              have hx : vOk most z = false := by simp [vOk, h1', h3]
              have R : Hid (zs.all (vOk most) = false) := hF.out hx
              clear hT hF hx h3
              go_wp2_with (go_at_call 70; refine (within_any _ _ _ _).mono ?_; rintro e w' ⟨rfl, rfl⟩)
              go_ret
              exact ⟨by rw [E2.out R.out]; rfl, rfl⟩
        · go_wp2
          go_ret
          rw [List.take_of_length_le (by omega)] at hall
          exact ⟨by rw [E1.out hall]; rfl, rfl⟩
    · have e0 : vfault zs most = 2 := by simp [vfault, vf, hin, hl]
      rw [e0]
      have hl' : ((zs.length : Int) != 3) = true := by simp; omega
      clear hl
      go_enter Tryz.func58, Tryz.ntmps58
      go_wp2_with (go_at_call 70; refine (within_any _ _ _ _).mono ?_; rintro e w' ⟨rfl, rfl⟩)
      go_ret
      exact ⟨rfl, rfl⟩
  · have h' : inB most 1 2 = false := by simpa using hin
    have e0 : vfault zs most = 3 := by simp [vfault, h']
    rw [e0]
    clear hin
    go_enter Tryz.func58, Tryz.ntmps58
    go_wp2_with (go_at_call 70; refine (within_any _ _ _ _).mono ?_; rintro e w' ⟨rfl, rfl⟩)
    go_ret
    exact ⟨rfl, rfl⟩

/-- The mask of those among the first k that voted v. -/
def votB (p q r : Bool) (k : Nat) : Int := vot3 (decide (0 < k) && p) (decide (1 < k) && q) (decide (2 < k) && r)
theorem votB_or (p q r : Bool) (k : Nat) (hk : k < 3) (h : [p, q, r].getD k false = true) : bits .or .i64 (votB p q r k) (wrap64 (2 ^ k)) = votB p q r (k + 1) := by
  match k, hk with
  | 0, _ => revert h; cases p <;> cases q <;> cases r <;> decide +kernel
  | 1, _ => revert h; cases p <;> cases q <;> cases r <;> decide +kernel
  | 2, _ => revert h; cases p <;> cases q <;> cases r <;> decide +kernel
theorem votB_no (p q r : Bool) (k : Nat) (hk : k < 3) (h : [p, q, r].getD k false = false) : votB p q r (k + 1) = votB p q r k := by
  match k, hk with
  | 0, _ => revert h; cases p <;> cases q <;> cases r <;> decide +kernel
  | 1, _ => revert h; cases p <;> cases q <;> cases r <;> decide +kernel
  | 2, _ => revert h; cases p <;> cases q <;> cases r <;> decide +kernel
theorem bool_at (zs : List Int) (v : Int) (k : Nat) (hk : k < 3) : [zs.getD 0 0 == v, zs.getD 1 0 == v, zs.getD 2 0 == v].getD k false = (zs.getD k 0 == v) := by
  match k, hk with
  | 0, _ => rfl
  | 1, _ => rfl
  | 2, _ => rfl

set_option maxHeartbeats 2000000 in
theorem votersOf_any (a : Option Addr) (cap : Nat) (zs : List Int) (v : Int) (w : World) (h : Row .i64 w a zs) (hl : zs.length = 3) :
    Calls Tryz.prog 77 #[.slice a 3 cap, .int .i64 v] w fun e w' => e = .returned (.int .i64 (vot zs v)) ∧ w' = w := by
  have hat := bool_at zs v
  have h3 : vot zs v = votB (zs.getD 0 0 == v) (zs.getD 1 0 == v) (zs.getD 2 0 == v) 3 := by simp [votB, vot]
  rw [h3]
  clear h3
  generalize (zs.getD 0 0 == v) = p at hat ⊢
  generalize (zs.getD 1 0 == v) = q at hat ⊢
  generalize (zs.getD 2 0 == v) = r at hat ⊢
  generalize hE : votB p q r 3 = E
  go_enter Tryz.func77, Tryz.ntmps77
  go_wp2
  go_loop [5, 10] (fun c i => ∃ k : Nat, k ≤ 3 ∧ c = .int .i64 (votB p q r k) ∧ i = .int .i64 k) (fun _ i => 3 - (intOf i).toNat)
  case atStart => exact ⟨0, Nat.zero_le _, rfl, rfl⟩
  case round =>
    obtain ⟨k, hk, rfl, rfl⟩ := hrel
    by_cases hlt : k < 3
    · obtain ⟨b, off, rfl, hbs, hc⟩ := h k (by omega)
      have hk2 := hat k hlt
      by_cases hz : (zs.getD k 0 == v) = true
      · have R : Hid (bits .or .i64 (votB p q r k) (wrap64 (2 ^ k)) = votB p q r (k + 1)) := votB_or p q r k hlt (hk2.trans hz)
        clear hk2
        generalize zs.getD k 0 = z at hc hz
        generalize votB p q r k = c at R ⊢
        generalize hd : votB p q r (k + 1) = d at R
        go_wp2
        go_round
        case rel => exact ⟨k + 1, by omega, by rw [hd, ← R.out], by go_num⟩
        case measure => simp [intOf]; omega
      · have hz' : (zs.getD k 0 == v) = false := by simpa using hz
        clear hz
        have R : Hid (votB p q r k = votB p q r (k + 1)) := (votB_no p q r k hlt (hk2.trans hz')).symm
        clear hk2
        generalize zs.getD k 0 = z at hc hz'
        generalize votB p q r k = c at R ⊢
        go_wp2
        go_round
        case rel => exact ⟨k + 1, by omega, by rw [R.out], by go_num⟩
        case measure => simp [intOf]; omega
    · have hkl : k = 3 := by omega
      subst hkl
      rw [hE]
      go_wp2
      go_ret
      exact ⟨rfl, rfl⟩

end Go.Proofs.YtmlkfmjenkcflaaGreatDoor

/- What the model's functions of chapter 5 do: masks, votes and their counts. -/
namespace Go.Proofs.YtmlkfmjenkcflaaGreatDoor
open Go.RowKit
set_option linter.unusedVariables false
set_option maxRecDepth 100000
set_option linter.unusedSimpArgs false

set_option maxHeartbeats 1000000 in
theorem l5Size_any (m : Int) (w : World) (h : inB m 0 7 = true) :
    Calls Tryz.prog 86 #[.int .i64 m] w fun e w' => e = .returned (.int .i64 (pop3 m)) ∧ Below w.heap.size w w' := by
  have hm := of_decide_eq_true h
  rw [← bits16 h]
  have hle := bitsL_le m 16
  have h1 := l1Bits_any m w hm.1 (by omega)
  generalize (bitsL m 16).length = n at *
  go_enter Tryz.func86, Tryz.ntmps86
  go_wp2_with fail
  refine h1.mono ?_
  rintro e w1 ⟨a, c, rfl, ho, hb⟩
  clear ho
  go_wp2
  go_ret
  exact ⟨rfl, hb⟩

set_option maxHeartbeats 1000000 in
theorem l5Quorum_any (m : Int) (w : World) :
    Calls Tryz.prog 78 #[.int .i64 m] w fun e w' => e = .returned (.bool (isQ m)) ∧ Below w.heap.size w w' := by
  by_cases h : inB m 0 7 = true
  · have hn := fun w => l5Size_any m w h
    go_enter Tryz.func78, Tryz.ntmps78
    go_wp2_with (first | (go_at_call 53; refine (l1In_any _ _ _ _).mono ?_; rintro e w' ⟨rfl, rfl⟩) | (go_at_call 86; refine (hn _).mono ?_; rintro e w' ⟨rfl, hb⟩))
    go_ret
    exact ⟨by simp [isQ, h], hb⟩
  · have h' : inB m 0 7 = false := by simpa using h
    clear h
    go_enter Tryz.func78, Tryz.ntmps78
    go_wp2_with (go_at_call 53; refine (l1In_any _ _ _ _).mono ?_; rintro e w' ⟨rfl, rfl⟩)
    go_ret
    exact ⟨by simp [isQ, h'], Below.refl _ _⟩

set_option maxHeartbeats 2000000 in
theorem l5Votes_any (a : Option Addr) (cap : Nat) (zs : List Int) (most : Int) (w : World) (h : Row .i64 w a zs) (hm : zs.length ≤ 9223372036854775807) :
    Calls Tryz.prog 39 #[.slice a zs.length cap, .int .i64 most] w fun e w' => e = .returned (.int .i64 (vf zs most)) ∧ Below w.heap.size w w' := by
  by_cases hl : zs.length = 3
  · have e0 : vf zs most = if zs.all (vOk most) then 0 else 3 := by simp [vf, hl]
    have E1 : Hid (zs.all (vOk most) = true → vf zs most = 0) := fun h => by rw [e0, h]; rfl
    have E2 : Hid (zs.all (vOk most) = false → vf zs most = 3) := fun h => by rw [e0, h]; rfl
    clear e0
    generalize vf zs most = E at E1 E2 ⊢
    rw [hl]
    go_enter Tryz.func39, Tryz.ntmps39
    go_wp2
    go_loop [5] (fun i => ∃ k : Nat, k ≤ 3 ∧ i = .int .i64 k ∧ (zs.take k).all (vOk most) = true) (fun i => 3 - (intOf i).toNat)
    case atStart => exact ⟨0, Nat.zero_le _, rfl, by simp⟩
    case round =>
      obtain ⟨k, hk, rfl, hall⟩ := hrel
      by_cases hlt3 : k < 3
      · have hlt : k < zs.length := by omega
        obtain ⟨b, off, rfl, hbs, hc⟩ := h k hlt
        have hT : Hid (vOk most (zs.getD k 0) = true → (zs.take (k + 1)).all (vOk most) = true) := fun hx => take_all zs _ k hall hlt hx
        have hF : Hid (vOk most (zs.getD k 0) = false → zs.all (vOk most) = false) := fun hx => not_all zs _ k hlt hx
        clear hall
        generalize zs.getD k 0 = z at hc hT hF
        by_cases h1 : inB z 0 most = true
        · have hx : vOk most z = true := by simp [vOk, h1]
          have R : Hid ((zs.take (k + 1)).all (vOk most) = true) := hT.out hx
          clear hT hF hx
          go_wp2_with (go_at_call 53; refine (l1In_any _ _ _ _).mono ?_; rintro e w' ⟨rfl, rfl⟩)
          go_round
          case rel => exact ⟨k + 1, by omega, by go_num, R.out⟩
          case measure => simp [intOf]; omega
        · have h1' : inB z 0 most = false := by simpa using h1
          clear h1
          by_cases h3 : z = 3
          · subst h3
            have hx : vOk most 3 = true := by simp [vOk]
            have R : Hid ((zs.take (k + 1)).all (vOk most) = true) := hT.out hx
            clear hT hF hx
            go_wp2_with (go_at_call 53; refine (l1In_any _ _ _ _).mono ?_; rintro e w' ⟨rfl, rfl⟩)
            go_round
            case rel => exact ⟨k + 1, by omega, by go_num, R.out⟩
            case measure => simp [intOf]; omega
          · have h3' : (z != 3) = true := by simpa using h3
            have hx : vOk most z = false := by simp [vOk, h1', h3]
            have R : Hid (zs.all (vOk most) = false) := hF.out hx
            clear hT hF hx h3
            go_wp2_with (go_at_call 53; refine (l1In_any _ _ _ _).mono ?_; rintro e w' ⟨rfl, rfl⟩)
            go_ret
            exact ⟨by rw [E2.out R.out]; rfl, Below.refl _ _⟩
      · go_wp2
        go_ret
        rw [List.take_of_length_le (by omega)] at hall
        exact ⟨by rw [E1.out hall]; rfl, Below.refl _ _⟩
  · have e0 : vf zs most = 2 := by simp [vf, hl]
    rw [e0]
    have hl' : ((zs.length : Int) != 3) = true := by simp; omega
    clear hl
    go_enter Tryz.func39, Tryz.ntmps39
    go_wp2
    go_ret
    exact ⟨rfl, Below.refl _ _⟩

/-- How many of the first k voted so. -/
def cntB (p q r : Bool) (k : Nat) : Int := sum3 (decide (0 < k) && p) (decide (1 < k) && q) (decide (2 < k) && r)
theorem cntB_yes (p q r : Bool) (k : Nat) (hk : k < 3) (h : [p, q, r].getD k false = true) : cntB p q r k + 1 = cntB p q r (k + 1) := by
  match k, hk with
  | 0, _ => revert h; cases p <;> cases q <;> cases r <;> decide +kernel
  | 1, _ => revert h; cases p <;> cases q <;> cases r <;> decide +kernel
  | 2, _ => revert h; cases p <;> cases q <;> cases r <;> decide +kernel
theorem cntB_no (p q r : Bool) (k : Nat) (hk : k < 3) (h : [p, q, r].getD k false = false) : cntB p q r (k + 1) = cntB p q r k := by
  match k, hk with
  | 0, _ => revert h; cases p <;> cases q <;> cases r <;> decide +kernel
  | 1, _ => revert h; cases p <;> cases q <;> cases r <;> decide +kernel
  | 2, _ => revert h; cases p <;> cases q <;> cases r <;> decide +kernel
theorem bool_at2 (m : Int) (zs : List Int) (v : Int) (k : Nat) (hk : k < 3) : [bitB m 0 && (zs.getD 0 0 == v), bitB m 1 && (zs.getD 1 0 == v), bitB m 2 && (zs.getD 2 0 == v)].getD k false = (bitB m k && (zs.getD k 0 == v)) := by
  match k, hk with
  | 0, _ => rfl
  | 1, _ => rfl
  | 2, _ => rfl

set_option maxHeartbeats 2000000 in
theorem l5Count_any (a : Option Addr) (cap : Nat) (zs : List Int) (m v : Int) (w : World) (h : Row .i64 w a zs) (hl : zs.length = 3) (hm : inB m 0 7 = true) :
    Calls Tryz.prog 27 #[.slice a 3 cap, .int .i64 m, .int .i64 v] w fun e w' => e = .returned (.int .i64 (cnt m zs v)) ∧ Below w.heap.size w w' := by
  have hat := bool_at2 m zs v
  have hmi := of_decide_eq_true hm
  have h3 : cnt m zs v = cntB (bitB m 0 && (zs.getD 0 0 == v)) (bitB m 1 && (zs.getD 1 0 == v)) (bitB m 2 && (zs.getD 2 0 == v)) 3 := by simp [cntB, cnt]
  rw [h3]
  clear h3
  generalize (bitB m 0 && (zs.getD 0 0 == v)) = p at hat ⊢
  generalize (bitB m 1 && (zs.getD 1 0 == v)) = q at hat ⊢
  generalize (bitB m 2 && (zs.getD 2 0 == v)) = r at hat ⊢
  generalize hE : cntB p q r 3 = E
  have hci : ∀ k, 0 ≤ cntB p q r k ∧ cntB p q r k ≤ 3 := fun k => sum3_in _ _ _
  go_enter Tryz.func27, Tryz.ntmps27
  go_wp2
  go_loopw [7, 8] (fun c i wr => ∃ k n : Nat, k ≤ 3 ∧ c = .int .i64 (cntB p q r k) ∧ i = .int .i64 k ∧ wr = w.drewN n) (fun _ i _ => 3 - (intOf i).toNat)
  case atStart => exact ⟨0, 0, Nat.zero_le _, rfl, rfl, rfl⟩
  case round =>
    obtain ⟨k, n, hk, rfl, rfl, rfl⟩ := hrel
    by_cases hlt : k < 3
    · obtain ⟨b, off, rfl, hbs, hc⟩ := h k (by omega)
      have hk2 := hat k hlt
      have hck := hci k
      have hhas := fun w => l1Has_any m k w hmi.1 (by omega) (by omega)
      by_cases hz : (bitB m k && (zs.getD k 0 == v)) = true
      · have R : Hid (cntB p q r k + 1 = cntB p q r (k + 1)) := cntB_yes p q r k hlt (hk2.trans hz)
        clear hk2
        generalize zs.getD k 0 = z at hc hz
        generalize bitB m k = t at hhas hz
        rw [Bool.and_eq_true] at hz
        obtain ⟨rfl, hz⟩ := hz
        generalize cntB p q r k = c at R hck ⊢
        generalize hd : cntB p q r (k + 1) = d at R
        clear hat hci
        go_wp2_with (go_at_call 40; refine (hhas _).mono ?_; rintro e w' ⟨rfl, rfl⟩)
        go_roundw
        case rel => exact ⟨k + 1, _, by omega, by rw [hd, ← R.out], by go_num, rfl⟩
        case measure => simp [intOf]; omega
      · have hz' : (bitB m k && (zs.getD k 0 == v)) = false := by simpa using hz
        clear hz
        have R : Hid (cntB p q r k = cntB p q r (k + 1)) := (cntB_no p q r k hlt (hk2.trans hz')).symm
        clear hk2
        generalize zs.getD k 0 = z at hc hz'
        generalize bitB m k = t at hhas hz'
        generalize cntB p q r k = c at R hck ⊢
        clear hat hci
        cases t
        · clear hz'
          go_wp2_with (go_at_call 40; refine (hhas _).mono ?_; rintro e w' ⟨rfl, rfl⟩)
          go_roundw
          case rel => exact ⟨k + 1, _, by omega, by rw [R.out], by go_num, rfl⟩
          case measure => simp [intOf]; omega
        · rw [Bool.true_and] at hz'
          go_wp2_with (go_at_call 40; refine (hhas _).mono ?_; rintro e w' ⟨rfl, rfl⟩)
          go_roundw
          case rel => exact ⟨k + 1, _, by omega, by rw [R.out], by go_num, rfl⟩
          case measure => simp [intOf]; omega
    · have hkl : k = 3 := by omega
      subst hkl
      rw [hE]
      go_wp2
      go_ret
      exact ⟨rfl, below_drewN (Below.refl _ _) _⟩

theorem votesFault_b (a : Option Addr) (cap : Nat) (zs : List Int) (most : Int) (w : World) (h : Row .i64 w a zs) (hm : zs.length ≤ 9223372036854775807) :
    Calls Tryz.prog 58 #[.slice a zs.length cap, .int .i64 most] w fun e w' => e = .returned (.int .i64 (vfault zs most)) ∧ Below w.heap.size w w' :=
  (votesFault_any a cap zs most w h hm).mono (by rintro e w' ⟨he, hw⟩; subst hw; exact ⟨he, Below.refl _ _⟩)

end Go.Proofs.YtmlkfmjenkcflaaGreatDoor

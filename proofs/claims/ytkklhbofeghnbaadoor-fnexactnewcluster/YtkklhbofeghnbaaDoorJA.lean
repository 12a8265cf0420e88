/- Texts that stand together: data, memory, helpers. No condition. -/
import Derived.WalkKit
import Derived.WalkSpells
import Derived.WalkLawsBesides
import Derived.BigQuiet
import Derived.Handy
import Derived.Test.YtkklhbofeghnbaaDoorProg
import Derived.Deep.RegionHeld3
namespace Go.Proofs.YtkklhbofeghnbaaDoor
open Go.RowKit
set_option linter.unusedVariables false
set_option linter.unusedSimpArgs false

theorem pjE {α : Type} : (∀ (l : List α) (i : Nat) (a : α), l.toArray.setIfInBounds i a = (l.set i a).toArray) ∧ (∀ (l : List α) (x a : α), (x :: l).set 0 a = a :: l) ∧ (∀ (l : List α) (x a : α) (n : Nat), (x :: l).set (n + 1) a = x :: l.set n a) :=
  ⟨fun _ _ _ => List.setIfInBounds_toArray .., fun _ _ _ => rfl, fun _ _ _ _ => rfl⟩

theorem pgE {α : Type} : (∀ (l : List α) (i : Nat) (h : i < l.toArray.size), l.toArray[i] = l[i]'(by simpa using h)) ∧ (∀ (l : List α) (x : α) (i : Nat) (h : i + 1 < (x :: l).length), (x :: l)[i + 1] = l[i]'(Nat.lt_of_succ_lt_succ h)) ∧ (∀ (l : List α) (x : α) (h : 0 < (x :: l).length), (x :: l)[0] = x) :=
  ⟨fun _ _ _ => List.getElem_toArray .., fun _ _ _ _ => List.getElem_cons_succ .., fun _ _ _ => rfl⟩

/-- The slice that begins at 'a' reads as the integers zs (of kind k) in w. -/
def Row (k : IntKind) (w : World) (a : Option Addr) (zs : List Int) : Prop :=
  ∀ i, i < zs.length → ∃ b off, a = some ⟨b, off, none⟩ ∧ b < w.heap.size ∧ w.cell? ⟨b, off + i, none⟩ = some (.int k (zs.getD i 0))

theorem Row.nil (k : IntKind) (w : World) (a : Option Addr) : Row k w a [] := fun i h => absurd h (Nat.not_lt_zero _)

theorem Row.below {k : IntKind} {w w' : World} {a : Option Addr} {zs : List Int} (h : Row k w a zs) (hb : Below w.heap.size w w') : Row k w' a zs := by
  intro i hi
  obtain ⟨b, off, ha, hlt, hc⟩ := h i hi
  exact ⟨b, off, ha, Nat.lt_of_lt_of_le hlt hb.size, by rw [hb.cell (p := ⟨b, off + i, none⟩) hlt]; exact hc⟩

theorem Row.own {k : IntKind} {w : World} {base e n c : Nat} {a : Option Addr} {zs : List Int} (h : w.ownsRow base e 1 (.slice a n c) n (zs.map (Value.int k))) : Row k w a zs := by
  have hlen : zs.length = n := by simpa using h.1
  intro i hi
  rcases h.2 with ⟨he, hn⟩ | ⟨g, cap, cur, he, hb, hg, r⟩
  · omega
  · simp only [Value.slice.injEq, true_and] at he
    obtain ⟨rfl, rfl⟩ := he
    refine ⟨g, 0, rfl, (Array.getElem?_eq_some_iff.1 hg).1, ?_⟩
    have := h.cellAt i (by omega)
    rw [Nat.zero_add, this]
    simp [List.getD, hi]

/-- What the frame of a claim tells of a slice that came in, as a Row. -/
theorem row_in {k : IntKind} {w : World} {a : Option Addr} {len cap : Nat} {zs : List Int}
    (h : (a = none ∧ len = 0 ∧ cap = 0 ∧ zs = []) ∨ ∃ x, a = some x ∧ len ≤ cap ∧ cap ≤ maxLen ∧ zs.length = cap ∧ (∀ i, i < zs.length → w.cell? (x.add i) = some (.int k (zs.getD i 0))) ∧ ∀ n ∈ zs, (Lit.int k n).wf = true) :
    ∃ ys : List Int, len = ys.length ∧ ys.length ≤ 9223372036854775807 ∧ Row k w a ys ∧ ∀ n ∈ ys, (Lit.int k n).wf = true := by
  rcases h with ⟨rfl, rfl, rfl, rfl⟩ | ⟨x, rfl, hl, hm, hz, hc, hw⟩
  · exact ⟨[], rfl, by simp, Row.nil _ _ _, by simp⟩
  · refine ⟨zs.take len, by simp; omega, by unfold maxLen at hm; simp; omega, ?_, fun n hn => hw n (List.mem_of_mem_take hn)⟩
    intro i hi
    simp at hi
    have h1 := hc i (by omega)
    obtain ⟨b, off, spot⟩ := x
    have hspot : spot = none := by simpa [Addr.add] using World.cell?_spot (hc 0 (by omega))
    subst hspot
    have h2 : w.cell? ⟨b, off + i, none⟩ = some (.int k (zs.getD i 0)) := by rw [Addr.add_lit] at h1; exact h1
    refine ⟨b, off, rfl, World.block_lt_of_cell? w _ h2, ?_⟩
    rw [h2]
    simp [List.getD, List.getElem?_take, show i < len by omega]

theorem u8_bounds {zs : List Int} (h : ∀ n ∈ zs, (Lit.int .u8 n).wf = true) : ∀ i, 0 ≤ zs.getD i 0 ∧ zs.getD i 0 ≤ 255 := by
  intro i
  by_cases hi : i < zs.length
  · have := h (zs.getD i 0) (by simp [List.getD, hi])
    exact bounds_u8 this
  · simp [List.getD, List.getElem?_eq_none (show zs.length ≤ i by omega)]

/-- Where a call has made new memory only, all that was there reads as before. -/
theorem bcell {W w1 : World} (hb : Below W.heap.size W w1) : (∀ b o, b < W.heap.size → w1.cell? ⟨b, o, none⟩ = W.cell? ⟨b, o, none⟩) ∧ (∀ b o, b < W.heap.size → w1.frozen? ⟨b, o, none⟩ = W.frozen? ⟨b, o, none⟩) :=
  ⟨fun b o h => hb.cell (p := ⟨b, o, none⟩) h, fun b o h => hb.frozen (p := ⟨b, o, none⟩) h⟩

/-- What is owned stays owned behind a call that makes new memory only. -/
theorem own_below {w w' : World} {base e size n : Nat} {v : Value} {xs : List Value} (h : w.ownsRow base e size v n xs) (hb : Below w.heap.size w w') : w'.ownsRow base e size v n xs := by
  refine ⟨h.1, ?_⟩
  rcases h.2 with h2 | ⟨g, cap, cur, hv, hg, hh, r⟩
  · exact Or.inl h2
  · exact Or.inr ⟨g, cap, cur, hv, hg, by rw [hb.block g (Array.getElem?_eq_some_iff.1 hh).1]; exact hh, r⟩

theorem own_shape {w : World} {base e size n : Nat} {v : Value} {xs : List Value} (h : w.ownsRow base e size v n xs) : ∃ a k, v = .slice a n k := by
  rcases h.2 with ⟨rfl, rfl⟩ | ⟨g, cap, cur, rfl, r⟩
  · exact ⟨_, _, rfl⟩
  · exact ⟨_, _, rfl⟩

/-- What is owned from a number on is owned from every smaller one on. -/
theorem own_base {w : World} {base base' e size n : Nat} {v : Value} {xs : List Value} (h : w.ownsRow base e size v n xs) (hb : base' ≤ base) : w.ownsRow base' e size v n xs := by
  refine ⟨h.1, ?_⟩
  rcases h.2 with h2 | ⟨g, cap, cur, hv, hg, r⟩
  · exact Or.inl h2
  · exact Or.inr ⟨g, cap, cur, hv, Nat.le_trans hb hg, r⟩

/-- An answer of two cells lies in its own box, laid first; a list that was made behind it is owned still when the box is filled. -/
theorem ret_box {w w' : World} {e n : Nat} {v : Value} {xs : List Value} {o : Obj} (ho : w'.ownsRow (w.alloc o).heap.size e 1 v n xs) (hb : Below (w.alloc o).heap.size (w.alloc o) w') (x y : Value) :
    ((w'.setCell ⟨w.heap.size, 0, none⟩ x).setCell ⟨w.heap.size, 1, none⟩ y).ownsRow w.heap.size e 1 v n xs ∧ Below w.heap.size w ((w'.setCell ⟨w.heap.size, 0, none⟩ x).setCell ⟨w.heap.size, 1, none⟩ y) := by
  have hs : (w.alloc o).heap.size = w.heap.size + 1 := by simp
  refine ⟨own_base (ownsRow_setCell_below (ownsRow_setCell_below ho (by rw [hs]; exact Nat.lt_succ_self _) _) (by rw [hs]; exact Nat.lt_succ_self _) _) (by omega), ?_⟩
  exact ((((Below.refl _ _).alloc (Nat.le_refl _) o).trans (hb.mono (by omega))).setCell (Nat.le_refl _) _).setCell (Nat.le_refl _) _

/-- Two cells at the head of block b. -/
structure Box (w : World) (b : Nat) (x y : Value) : Prop where
  fst : w.cell? ⟨b, 0, none⟩ = some x
  snd : w.cell? ⟨b, 1, none⟩ = some y

theorem Box.lt {w : World} {b : Nat} {x y : Value} (h : Box w b x y) : b < w.heap.size := World.block_lt_of_cell? w ⟨b, 0, none⟩ h.fst
theorem Box.new (w : World) (x y : Value) (t : TypeId) : Box (w.alloc (.cells #[x, y] t)) w.heap.size x y := ⟨by simp, by simp⟩
theorem Box.below {w w' : World} {b : Nat} {x y : Value} (h : Box w b x y) (hb : Below w.heap.size w w') : Box w' b x y :=
  ⟨by rw [hb.cell (p := ⟨b, 0, none⟩) h.lt]; exact h.fst, by rw [hb.cell (p := ⟨b, 1, none⟩) h.lt]; exact h.snd⟩
theorem Box.alloc {w : World} {b : Nat} {x y : Value} (h : Box w b x y) (o : Obj) : Box (w.alloc o) b x y := h.below ((Below.refl _ _).alloc (Nat.le_refl _) o)
theorem Box.grown {w w' : World} {b : Nat} {x y : Value} {row : Option Nat} (h : Box w b x y) (hg : w.grownBy w' row) (hne : some b ≠ row) : Box w' b x y :=
  ⟨hg.cell h.fst hne, hg.cell h.snd hne⟩

theorem own_apart {w w' : World} {base base' e e' n n' : Nat} {v v' : Value} {xs xs' : List Value} (h : w.ownsRow base e 1 v n xs) (h' : w'.ownsRow base' e' 1 v' n' xs') (hb : w.heap.size ≤ base') : v.ownBlock = none ∨ v.ownBlock ≠ v'.ownBlock := by
  cases hv : v.ownBlock with
  | none => exact Or.inl rfl
  | some g =>
    right
    intro e
    have h1 := (h.lt g hv).2
    have h2 := (h'.lt g e.symm).1
    omega

theorem own_apart' {w w' : World} {base base' e e' n n' : Nat} {v v' : Value} {xs xs' : List Value} (h : w.ownsRow base e 1 v n xs) (h' : w'.ownsRow base' e' 1 v' n' xs') (hb : w.heap.size ≤ base') : v'.ownBlock = none ∨ v'.ownBlock ≠ v.ownBlock := by
  rcases own_apart h h' hb with e | e
  · cases hv : v'.ownBlock with
    | none => exact Or.inl rfl
    | some g => right; rw [e]; simp
  · exact Or.inr (fun k => e k.symm)

theorem own_not {w : World} {base e n b : Nat} {v : Value} {xs : List Value} (h : w.ownsRow base e 1 v n xs) (hb : b < base ∨ w.heap.size ≤ b) : some b ≠ v.ownBlock := by
  intro e
  have h1 := h.lt b e.symm
  omega

/-- The marks: from c on, counted up, as the kind k holds them. -/
def marks (k : IntKind) (c : Int) (n : Nat) : List Int := (List.range n).map fun (i : Nat) => k.wrap (c + (i : Int))

theorem marks_length (k : IntKind) (c : Int) (n : Nat) : (marks k c n).length = n := by simp [marks]

theorem marks_getD (k : IntKind) (c : Int) (n i : Nat) (h : i < n) : (marks k c n).getD i 0 = k.wrap (c + (i : Int)) := by simp [marks, List.getD, h]

theorem marks_get (k : IntKind) (c : Int) (n i : Nat) (h : i < n) : (marks k c n)[i]?.getD 0 = k.wrap (c + (i : Int)) := by simp [marks, h]

/-- A list whose head is written over, place by place. -/
def laid (zs : List Int) (k : IntKind) (xs : List Value) (i : Nat) : List Value := (zs.take i).map (Value.int k) ++ xs.drop i

theorem laid_zero (zs : List Int) (k : IntKind) (xs : List Value) : laid zs k xs 0 = xs := by simp [laid]

theorem laid_all (zs : List Int) (k : IntKind) (xs : List Value) (h : xs.length = zs.length) : laid zs k xs zs.length = zs.map (Value.int k) := by
  have : xs.drop zs.length = [] := List.drop_of_length_le (by omega)
  simp [laid, this]

theorem laid_step (zs : List Int) (k : IntKind) (xs : List Value) (i : Nat) (h : xs.length = zs.length) (hi : i < zs.length) : (laid zs k xs i).set i (.int k (zs.getD i 0)) = laid zs k xs (i + 1) := by
  apply List.ext_getElem?
  intro j
  simp only [laid, List.getElem?_set, List.getElem?_append, List.length_append, List.length_map, List.length_take, List.length_drop, List.getElem?_map, List.getElem?_drop, List.getElem?_take]
  by_cases hj : j = i
  · subst hj
    simp [Nat.min_eq_left (Nat.le_of_lt hi), hi, h, List.getD, Nat.min_eq_left (show j + 1 ≤ zs.length by omega)]
    omega
  · rw [if_neg (by omega)]
    rw [Nat.min_eq_left (by omega), Nat.min_eq_left (by omega)]
    by_cases hlt : j < i
    · simp [hlt, show j < i + 1 by omega]
    · rw [if_neg hlt, if_neg (by omega)]
      congr 1; omega

theorem laid_length (zs : List Int) (k : IntKind) (xs : List Value) (i : Nat) (h : xs.length = zs.length) (hi : i ≤ zs.length) : (laid zs k xs i).length = xs.length := by
  simp [laid]; omega

end Go.Proofs.YtkklhbofeghnbaaDoor

namespace Go.Proofs.YtkklhbofeghnbaaDoor
open Go.RowKit
set_option linter.unusedVariables false
set_option linter.unusedSimpArgs false

theorem infoU8 : (Tryd.prog.info? 5).map (fun i => (i.zero, i.size, i.bytes)) = some (some (.int .u8 0), 1, 1) := by kernel_rfl

end Go.Proofs.YtkklhbofeghnbaaDoor

namespace Go.Proofs.YtkklhbofeghnbaaDoor
open Go.RowKit
set_option linter.unusedVariables false
set_option linter.unusedSimpArgs false

theorem infoI64 : (Tryd.prog.info? 2).map (fun i => (i.zero, i.size, i.bytes)) = some (some (.int .i64 0), 1, 8) := by kernel_rfl

set_option maxHeartbeats 1000000 in
theorem eqI_true (a a' : Option Addr) (cap cap' : Nat) (zs : List Int) (w : World) (h : Row .i64 w a zs) (h' : Row .i64 w a' zs) (hl : zs.length ≤ 1099511627776) :
    Calls Tryd.prog 44 #[.slice a zs.length cap, .slice a' zs.length cap'] w fun e w' => e = .returned (.bool true) ∧ ∃ n, w' = w.drewN n := by
  go_enter Tryd.func44, Tryd.ntmps44
  go_wp2
  go_loopw [5] (fun i wr => ∃ k m : Nat, k ≤ zs.length ∧ i = .int .i64 k ∧ wr = w.drewN m) (fun i _ => zs.length - (intOf i).toNat)
  case atStart => exact ⟨0, 0, Nat.zero_le _, rfl, rfl⟩
  case round =>
    obtain ⟨k, m, hk, rfl, rfl⟩ := hrel
    by_cases hlt : k < zs.length
    · obtain ⟨b, off, rfl, hbs, hc⟩ := h k hlt
      obtain ⟨b', off', rfl, hbs', hc'⟩ := h' k hlt
      generalize zs.getD k 0 = z at hc hc'
      have hne : (z != z) = false := by simp
      go_wp2
      go_quiet (fail)
      go_wp2
      go_roundw
      case rel => exact ⟨k + 1, _, by omega, by go_num, rfl⟩
      case measure => simp [intOf]; omega
    · go_wp2
      go_ret
      exact ⟨rfl, _, rfl⟩

set_option maxHeartbeats 1000000 in
theorem markI_any (base : Nat) (v : Value) (n : Nat) (xs : List Value) (c : Int) (w : World) (h : w.ownsRow base 2 1 v n xs) (hn : n ≤ 1099511627776) (h0 : 0 ≤ c) (h1 : c ≤ 1099511627776) :
    Calls Tryd.prog 32 #[v, .int .i64 c] w fun e w' => e = .returned (.int .i64 (c + n)) ∧ w'.ownsRow base 2 1 v n ((marks .i64 c n).map (Value.int .i64)) ∧ w.grownBy w' v.ownBlock := by
  have hxs : xs.length = n := by simpa using h.1
  rcases h.2 with ⟨rfl, rfl⟩ | ⟨g, cap, cur, rfl, hb, hg, r⟩
  · go_enter Tryd.func32, Tryd.ntmps32
    go_wp2
    refine wp_loop_rounds 1 ?_
    rw [rounds_succ]
    go_wp2
    go_ret
    exact ⟨by simp, World.ownsRow_nil _ _ _ _, World.grownBy.refl _ _⟩
  · clear hg r
    have hml := marks_length .i64 c n
    rw [← laid_zero (marks .i64 c n) .i64 xs] at h
    go_enter Tryd.func32, Tryd.ntmps32
    go_wp2
    go_loopw [1, 5] (fun j i wr => ∃ k : Nat, k ≤ n ∧ j = .int .i64 (c + k) ∧ i = .int .i64 k ∧ wr.ownsRow base 2 1 (.slice (some ⟨g, 0, none⟩) n cap) n (laid (marks .i64 c n) .i64 xs k) ∧ w.grownBy wr (some g)) (fun _ i _ => n - (intOf i).toNat)
    case atStart => exact ⟨0, Nat.zero_le _, by go_num, rfl, h, World.grownBy.refl _ _⟩
    case round =>
      obtain ⟨k, hk, rfl, rfl, ho, hgr⟩ := hrel
      by_cases hlt : k < n
      · have hfz : wr.frozen? ⟨g, k, none⟩ = false := ho.frozenAt k
        obtain ⟨u, hu⟩ : ∃ u, wr.cell? ⟨g, k, none⟩ = some u := by
          rw [ho.cellAt k (by omega)]
          exact ⟨_, List.getElem?_eq_getElem (by rw [laid_length _ _ _ _ (by omega) (by omega)]; omega)⟩
        have hst := ho.stored k (.int .i64 ((marks .i64 c n).getD k 0))
        rw [laid_step (marks .i64 c n) .i64 xs k (by omega) (by omega), marks_getD _ _ _ _ hlt, IntWalk.i64_in _ (by omega)] at hst
        have R : Hid ((wr.setCell ⟨g, k, none⟩ (.int .i64 (c + (k : Int)))).ownsRow base 2 1 (.slice (some ⟨g, 0, none⟩) n cap) n (laid (marks .i64 c n) .i64 xs (k + 1)) ∧ w.grownBy (wr.setCell ⟨g, k, none⟩ (.int .i64 (c + (k : Int)))) (some g)) :=
          ⟨hst.1, ⟨hst.2.os.trans hgr.os, hst.2.tape.trans hgr.tape, hst.2.output.trans hgr.output, Nat.le_trans hgr.size hst.2.size, fun j hj hne => (hst.2.block j (Nat.lt_of_lt_of_le hj hgr.size) hne).trans (hgr.block j hj hne)⟩⟩
        clear hst
        go_wp2
        go_roundw
        case rel => exact ⟨k + 1, by omega, by go_num, by go_num, R.out.1, R.out.2⟩
        case measure => simp [intOf]; omega
      · go_wp2
        go_ret
        have hkl : k = n := by omega
        subst hkl
        have hla := laid_all (marks .i64 c k) .i64 xs (by omega)
        rw [hml] at hla
        rw [hla] at ho
        exact ⟨rfl, ho, hgr⟩

set_option maxHeartbeats 1000000 in
theorem heldI_true (a : Option Addr) (n cap : Nat) (c : Int) (w : World) (h : Row .i64 w a (marks .i64 c n)) (hn : n ≤ 1099511627776) (h0 : 0 ≤ c) (h1 : c ≤ 1099511627776) :
    Calls Tryd.prog 37 #[.slice a n cap, .int .i64 c] w fun e w' => e = .returned (.int .i64 (c + n)) ∧ w' = w := by
  go_enter Tryd.func37, Tryd.ntmps37
  go_wp2
  go_loop [1, 5] (fun j i => ∃ k : Nat, k ≤ n ∧ j = .int .i64 (c + k) ∧ i = .int .i64 k) (fun _ i => n - (intOf i).toNat)
  case atStart => exact ⟨0, Nat.zero_le _, by go_num, rfl⟩
  case round =>
    obtain ⟨k, hk, rfl, rfl⟩ := hrel
    by_cases hlt : k < n
    · obtain ⟨b, off, rfl, hbs, hc⟩ := h k (by rw [marks_length]; exact hlt)
      rw [marks_getD _ _ _ _ hlt, IntWalk.i64_in _ (by omega)] at hc
      go_wp2
      go_round
      case rel => exact ⟨k + 1, by omega, by go_num, by go_num⟩
      case measure => simp [intOf]; omega
    · go_wp2
      go_ret
      have hkl : k = n := by omega
      subst hkl
      exact ⟨rfl, rfl⟩

end Go.Proofs.YtkklhbofeghnbaaDoor

namespace Go.Proofs.YtkklhbofeghnbaaDoor
open Go.RowKit
set_option linter.unusedVariables false
set_option linter.unusedSimpArgs false

end Go.Proofs.YtkklhbofeghnbaaDoor

namespace Go.Proofs.YtkklhbofeghnbaaDoor
open Go.RowKit
set_option linter.unusedVariables false
set_option linter.unusedSimpArgs false

/-- Does v lie from lo to hi? -/
def inB (v lo hi : Int) : Bool := decide (lo ≤ v ∧ v ≤ hi)
/-- Is n a short number? -/
def shortB (n : Int) : Bool := inB n (-32768) 32767
theorem short_of {n : Int} (h : shortB n = true) : -32768 ≤ n ∧ n ≤ 32767 := of_decide_eq_true h
theorem short_not {n : Int} (h : shortB n = false) : ¬ (-32768 ≤ n ∧ n ≤ 32767) := of_decide_eq_false h
theorem short_mk {n : Int} (h : -32768 ≤ n ∧ n ≤ 32767) : shortB n = true := decide_eq_true h
theorem short_mkn {n : Int} (h : ¬ (-32768 ≤ n ∧ n ≤ 32767)) : shortB n = false := decide_eq_false h

/-- The two bytes of a number, the higher one first. -/
def put2 (n : Int) : List Int := [n % 65536 / 256, n % 256]

/-- What is told of a number: its bytes, or a code. -/
def putC (n : Int) : Int := if shortB n then 0 else 3
def putL (n : Int) : List Int := if shortB n then put2 n else []

theorem u16_wrap (n : Int) : IntKind.u16.wrap n = n % 65536 := by
  simp [IntKind.wrap, IntKind.bits, IntKind.signed]

theorem below_of_grown {w w' : World} (h : w.grownBy w' (Value.slice none 0 0).ownBlock) : Below w.heap.size w w' :=
  ⟨h.os, h.tape, h.output, h.size, fun k hk => h.block k hk (by simp [Value.ownBlock])⟩

end Go.Proofs.YtkklhbofeghnbaaDoor

namespace Go.Proofs.YtkklhbofeghnbaaDoor
open Go.RowKit
set_option linter.unusedVariables false
set_option linter.unusedSimpArgs false

theorem infoI64' : (Tryd.prog.info? 2).map (fun i => (i.zero, i.size, i.bytes)) = some (some (.int .i64 0), 1, 8) := by kernel_rfl

/-- Has m the bit k? -/
def bitB (m : Int) (k : Nat) : Bool := decide (m / 2 ^ k % 2 = 1)
/-- The bits of m below k, rising. -/
def bitsL (m : Int) (k : Nat) : List Int := ((List.range k).filter (bitB m)).map fun (i : Nat) => (i : Int)
theorem bitsL_zero (m : Int) : bitsL m 0 = [] := rfl
theorem bitsL_yes (m : Int) (k : Nat) (h : bitB m k = true) : bitsL m (k + 1) = bitsL m k ++ [(k : Int)] := by simp [bitsL, List.range_succ, List.filter_append, h]
theorem bitsL_no (m : Int) (k : Nat) (h : bitB m k = false) : bitsL m (k + 1) = bitsL m k := by simp [bitsL, List.range_succ, List.filter_append, h]
theorem bitsL_le (m : Int) (k : Nat) : (bitsL m k).length ≤ k := by
  have := List.length_filter_le (bitB m) (List.range k)
  simpa [bitsL] using this

theorem bit_rem (m : Int) (k : Nat) (h : 0 ≤ m) : ((m / 2 ^ k).tmod 2 == 1) = bitB m k := by
  have h2 : 0 ≤ m / 2 ^ k := Int.ediv_nonneg h (by exact Int.le_of_lt (Int.pow_pos (by decide)))
  rw [Int.tmod_eq_emod_of_nonneg h2]
  simp [bitB, Bool.beq_eq_decide_eq]

/-- What is told of a mask: its bits, or a code. -/
def bitsC (m : Int) : Int := if 0 ≤ m ∧ m ≤ 65535 then 0 else 3
def bitsR (m : Int) : List Int := if 0 ≤ m ∧ m ≤ 65535 then bitsL m 16 else []
theorem bitsR_le (m : Int) : (bitsR m).length ≤ 16 := by
  unfold bitsR
  split
  · exact bitsL_le m 16
  · simp

theorem and_one (x : Int) (h0 : 0 ≤ x) (h1 : x ≤ 65535) : bits .and .i64 x 1 = x % 2 := by
  obtain ⟨p, rfl⟩ := Int.eq_ofNat_of_zero_le h0
  have e1 : (1 : Int) = ((1 : Nat) : Int) := rfl
  rw [e1]
  simp only [bits, BitVec.toNat_and, BitVec.ofInt_natCast, BitVec.toNat_ofNat]
  have k1 : p % 2 ^ IntKind.i64.bits = p := Nat.mod_eq_of_lt (by simp [IntKind.bits]; omega)
  have k2 : 1 % 2 ^ IntKind.i64.bits = 1 := Nat.mod_eq_of_lt (by simp [IntKind.bits])
  rw [k1, k2, Nat.and_one_is_mod, IntWalk.i64_in _ (by omega)]
  omega

theorem shr_bounds (m : Int) (k : Nat) (h0 : 0 ≤ m) (h1 : m ≤ 65535) : 0 ≤ m / 2 ^ k ∧ m / 2 ^ k ≤ 65535 := by
  refine ⟨Int.ediv_nonneg h0 (Int.le_of_lt (Int.pow_pos (by decide))), ?_⟩
  exact Int.le_trans (Int.ediv_le_self _ h0) h1

theorem bit_and (m : Int) (k : Nat) (h0 : 0 ≤ m) (h1 : m ≤ 65535) : (bits .and .i64 (m / 2 ^ k) 1 == 1) = bitB m k := by
  obtain ⟨a, b⟩ := shr_bounds m k h0 h1
  rw [and_one _ a b]
  simp [bitB, Bool.beq_eq_decide_eq]

end Go.Proofs.YtkklhbofeghnbaaDoor

namespace Go.Proofs.YtkklhbofeghnbaaDoor
open Go.RowKit
set_option linter.unusedVariables false
set_option linter.unusedSimpArgs false
set_option maxRecDepth 100000

/-- Is x a vote, by most? -/
def vOk (most x : Int) : Bool := inB x 0 most || x == 3
/-- The fault of a row of votes, by most. -/
def vf (zs : List Int) (most : Int) : Int := if zs.length = 3 then (if zs.all (vOk most) then 0 else 3) else 2
def vfault (zs : List Int) (most : Int) : Int := if inB most 1 2 then vf zs most else 3
/-- The sum of three bits. -/
def sum3 (p q r : Bool) : Int := p.toNat + q.toNat + r.toNat
/-- How many of the low three bits m has. -/
def pop3 (m : Int) : Int := sum3 (bitB m 0) (bitB m 1) (bitB m 2)
/-- How many nodes of m voted v. -/
def cnt (m : Int) (zs : List Int) (v : Int) : Int := sum3 (bitB m 0 && (zs.getD 0 0 == v)) (bitB m 1 && (zs.getD 1 0 == v)) (bitB m 2 && (zs.getD 2 0 == v))
/-- The mask of all that voted v. -/
def vot3 (p q r : Bool) : Int := p.toNat + 2 * q.toNat + 4 * r.toNat
def vot (zs : List Int) (v : Int) : Int := vot3 (zs.getD 0 0 == v) (zs.getD 1 0 == v) (zs.getD 2 0 == v)
def isQ (m : Int) : Bool := inB m 0 7 && decide (2 ≤ pop3 m)
def cvC (zs : List Int) (m v : Int) : Int := if vf zs 2 = 0 then (if inB m 0 7 && inB v 0 3 then 0 else 3) else vf zs 2
def cvV (zs : List Int) (m v : Int) : Int := if cvC zs m v = 0 then cnt m zs v else 0

theorem eight {m : Int} (h : inB m 0 7 = true) : m = 0 ∨ m = 1 ∨ m = 2 ∨ m = 3 ∨ m = 4 ∨ m = 5 ∨ m = 6 ∨ m = 7 := by
  have := of_decide_eq_true h
  omega
theorem three {zs : List Int} (h : zs.length = 3) : ∃ x y z, zs = [x, y, z] := by
  match zs, h with
  | [x, y, z], _ => exact ⟨x, y, z, rfl⟩
theorem vf_len {zs : List Int} {most : Int} (h : vf zs most = 0) : zs.length = 3 := by
  unfold vf at h
  split at h
  · assumption
  · simp at h
theorem vot3_in (p q r : Bool) : inB (vot3 p q r) 0 7 = true := by cases p <;> cases q <;> cases r <;> decide
theorem vot_in (zs : List Int) (v : Int) : inB (vot zs v) 0 7 = true := vot3_in _ _ _
theorem and_vot3 (p q r : Bool) : ∀ m ∈ [(0 : Int), 1, 2, 3, 4, 5, 6, 7], inB (bits .and .i64 m (vot3 p q r)) 0 7 = true ∧ pop3 (bits .and .i64 m (vot3 p q r)) = sum3 (bitB m 0 && p) (bitB m 1 && q) (bitB m 2 && r) ∧ ((bits .and .i64 m (vot3 p q r)) == 0) = (sum3 (bitB m 0 && p) (bitB m 1 && q) (bitB m 2 && r) == 0) := by
  cases p <;> cases q <;> cases r <;> decide +kernel
theorem and_vot {m : Int} (h : inB m 0 7 = true) (zs : List Int) (v : Int) : inB (bits .and .i64 m (vot zs v)) 0 7 = true ∧ pop3 (bits .and .i64 m (vot zs v)) = cnt m zs v ∧ ((bits .and .i64 m (vot zs v)) == 0) = (cnt m zs v == 0) := by
  refine and_vot3 _ _ _ m ?_
  rcases eight h with rfl | rfl | rfl | rfl | rfl | rfl | rfl | rfl <;> simp
theorem sum3_in (p q r : Bool) : 0 ≤ sum3 p q r ∧ sum3 p q r ≤ 3 := by cases p <;> cases q <;> cases r <;> decide
theorem cnt_in (m : Int) (zs : List Int) (v : Int) : 0 ≤ cnt m zs v ∧ cnt m zs v ≤ 3 := sum3_in _ _ _
theorem bits16 {m : Int} (h : inB m 0 7 = true) : ((bitsL m 16).length : Int) = pop3 m := by
  rcases eight h with rfl | rfl | rfl | rfl | rfl | rfl | rfl | rfl <;> decide +kernel

end Go.Proofs.YtkklhbofeghnbaaDoor

namespace Go.Proofs.YtkklhbofeghnbaaDoor
open Go.RowKit
set_option linter.unusedVariables false
set_option linter.unusedSimpArgs false

/-- The cells from 'a' on hold xs. -/
def Lies (w : World) (a : Option Addr) (xs : List Value) : Prop :=
  xs = [] ∨ ∃ b off, a = some ⟨b, off, none⟩ ∧ b < w.heap.size ∧ ∀ i x, xs[i]? = some x → w.cell? ⟨b, off + i, none⟩ = some x

theorem Lies.below {w w' : World} {a : Option Addr} {xs : List Value} (h : Lies w a xs) (hb : Below w.heap.size w w') : Lies w' a xs := by
  rcases h with h | ⟨b, off, ha, hlt, hc⟩
  · exact Or.inl h
  · exact Or.inr ⟨b, off, ha, Nat.lt_of_lt_of_le hlt hb.size, fun i x hx => by rw [hb.cell (p := ⟨b, off + i, none⟩) hlt]; exact hc i x hx⟩

theorem Lies.own {w : World} {base e size n c : Nat} {a : Option Addr} {xs : List Value} (h : w.ownsRow base e size (.slice a n c) n xs) : Lies w a xs := by
  rcases h.2 with ⟨he, hn⟩ | ⟨g, cap, cur, he, hb, hg, r⟩
  · left
    have := h.1
    rw [hn, Nat.zero_mul] at this
    exact List.eq_nil_of_length_eq_zero this
  · right
    simp only [Value.slice.injEq, true_and] at he
    obtain ⟨rfl, rfl⟩ := he
    refine ⟨g, 0, rfl, (Array.getElem?_eq_some_iff.1 hg).1, fun i x hx => ?_⟩
    have hi : i < n * size := by rw [← h.1]; exact (List.getElem?_eq_some_iff.1 hx).1
    rw [Nat.zero_add, h.cellAt i hi, hx]

/-- A list whose head is written over, place by place. -/
def layV (zs xs : List Value) (k : Nat) : List Value := zs.take k ++ xs.drop k

theorem layV_zero (zs xs : List Value) : layV zs xs 0 = xs := by simp [layV]
theorem layV_all (zs xs : List Value) (k : Nat) (h : xs.length = zs.length) (hk : zs.length = k) : layV zs xs k = zs := by
  have : xs.drop k = [] := List.drop_of_length_le (by omega)
  simp [layV, this, ← hk]
  omega
theorem layV_length (zs xs : List Value) (k : Nat) (h : xs.length = zs.length) (hk : k ≤ zs.length) : (layV zs xs k).length = zs.length := by simp [layV]; omega
theorem layV_step (zs xs : List Value) (k : Nat) (v : Value) (h : xs.length = zs.length) (hv : zs[k]? = some v) : (layV zs xs k).set k v = layV zs xs (k + 1) := by
  have hk : k < zs.length := (List.getElem?_eq_some_iff.1 hv).1
  apply List.ext_getElem?
  intro j
  simp only [layV, List.getElem?_set, List.getElem?_append, List.length_append, List.length_take, List.length_drop, List.getElem?_drop, List.getElem?_take]
  by_cases hj : j = k
  · subst hj
    simp [Nat.min_eq_left (Nat.le_of_lt hk), Nat.min_eq_left (show j + 1 ≤ zs.length by omega), hv]
    omega
  · rw [if_neg (by omega), Nat.min_eq_left (by omega), Nat.min_eq_left (by omega)]
    by_cases hlt : j < k
    · simp [hlt, show j < k + 1 by omega]
    · rw [if_neg hlt, if_neg (by omega)]
      congr 1; omega

structure ActD where
  kind : Int
  key : Int
  val : Int
def actNo : ActD := ⟨0, 0, 0⟩
def ActD.cells (x : ActD) : List Value := [.int .i64 x.kind, .int .i64 x.key, .int .i64 x.val]
def actCells (xs : List ActD) : List Value := xs.flatMap ActD.cells
def ActRow (w : World) (a : Option Addr) (xs : List ActD) : Prop := Lies w a (actCells xs)

theorem actCells_length (xs : List ActD) : (actCells xs).length = xs.length * 3 := by
  induction xs with
  | nil => rfl
  | cons x xs ih => simp only [actCells, List.flatMap_cons, List.length_append, List.length_cons] at ih ⊢; rw [ih]; simp [ActD.cells]; omega

theorem actCells_get (xs : List ActD) : ∀ (i : Nat), i < xs.length → (actCells xs)[i * 3]? = some (.int .i64 (xs.getD i actNo).kind) ∧ (actCells xs)[i * 3 + 1]? = some (.int .i64 (xs.getD i actNo).key) ∧ (actCells xs)[i * 3 + 2]? = some (.int .i64 (xs.getD i actNo).val) := by
  induction xs with
  | nil => intro i h; simp at h
  | cons x xs ih =>
    intro i h
    cases i with
    | zero => simp [actCells, ActD.cells]
    | succ i =>
      have e : actCells (x :: xs) = x.cells ++ actCells xs := rfl
      have hl : x.cells.length = 3 := rfl
      obtain ⟨h1, h2, h3⟩ := ih i (by simpa using h)
      rw [e, List.getElem?_append_right (by omega), List.getElem?_append_right (by omega), List.getElem?_append_right (by omega), hl, show (i + 1) * 3 - 3 = i * 3 by omega, show (i + 1) * 3 + 1 - 3 = i * 3 + 1 by omega, show (i + 1) * 3 + 2 - 3 = i * 3 + 2 by omega]
      simpa [List.getD] using ⟨h1, h2, h3⟩

theorem ActRow.below {w w' : World} {a : Option Addr} {xs : List ActD} (h : ActRow w a xs) (hb : Below w.heap.size w w') : ActRow w' a xs := Lies.below h hb

theorem ActRow.at {w : World} {a : Option Addr} {xs : List ActD} (h : ActRow w a xs) (i : Nat) (hi : i < xs.length) :
    ∃ b off, a = some ⟨b, off, none⟩ ∧ b < w.heap.size ∧ w.cell? ⟨b, off + i * 3, none⟩ = some (.int .i64 (xs.getD i actNo).kind) ∧ w.cell? ⟨b, off + i * 3 + 1, none⟩ = some (.int .i64 (xs.getD i actNo).key) ∧ w.cell? ⟨b, off + i * 3 + 2, none⟩ = some (.int .i64 (xs.getD i actNo).val) := by
  obtain ⟨h1, h2, h3⟩ := actCells_get xs i hi
  rcases h with h | ⟨b, off, ha, hlt, hc⟩
  · have := actCells_length xs
    rw [h] at this
    simp at this
    omega
  · exact ⟨b, off, ha, hlt, hc _ _ h1, by rw [Nat.add_assoc]; exact hc _ _ h2, by rw [Nat.add_assoc]; exact hc _ _ h3⟩

theorem infoAct : (Tryd.prog.info? 97).map (fun i => (i.zero, i.size, i.bytes)) = some (some (.agg #[.int .i64 0, .int .i64 0, .int .i64 0]), 3, 24) := by kernel_rfl

/-- Three cells of a row of threes are written over. -/
theorem lay3 {w : World} {base e g cap n k : Nat} {zs ys : List Value} {v0 v1 v2 : Value} (ho : w.ownsRow base e 3 (.slice (some ⟨g, 0, none⟩) n cap) n (layV zs ys (k * 3)))
    (hl : ys.length = zs.length) (hz : zs.length = n * 3) (hk : k < n) (g0 : zs[k * 3]? = some v0) (g1 : zs[k * 3 + 1]? = some v1) (g2 : zs[k * 3 + 2]? = some v2) :
    (((w.setCell ⟨g, k * 3, none⟩ v0).setCell ⟨g, k * 3 + 1, none⟩ v1).setCell ⟨g, k * 3 + 2, none⟩ v2).ownsRow base e 3 (.slice (some ⟨g, 0, none⟩) n cap) n (layV zs ys ((k + 1) * 3)) ∧
    (w.frozen? ⟨g, k * 3, none⟩ = false ∧ w.frozen? ⟨g, k * 3 + 1, none⟩ = false ∧ w.frozen? ⟨g, k * 3 + 2, none⟩ = false) ∧
    ((∃ u, w.cell? ⟨g, k * 3, none⟩ = some u) ∧ (∃ u, w.cell? ⟨g, k * 3 + 1, none⟩ = some u) ∧ (∃ u, w.cell? ⟨g, k * 3 + 2, none⟩ = some u)) ∧
    (∀ B a, Below B a w → B ≤ g → Below B a (((w.setCell ⟨g, k * 3, none⟩ v0).setCell ⟨g, k * 3 + 1, none⟩ v1).setCell ⟨g, k * 3 + 2, none⟩ v2)) := by
  have hc : ∀ j, j < n * 3 → ∃ u, w.cell? ⟨g, j, none⟩ = some u := fun j hj => by
    rw [ho.cellAt j hj]
    exact ⟨_, List.getElem?_eq_getElem (by rw [ho.1]; exact hj)⟩
  have s0 := (ho.stored (k * 3) v0).1
  rw [layV_step _ _ _ _ hl g0] at s0
  have s1 := (s0.stored (k * 3 + 1) v1).1
  rw [layV_step _ _ _ _ hl g1] at s1
  have s2 := (s1.stored (k * 3 + 2) v2).1
  rw [layV_step _ _ _ _ hl g2, show k * 3 + 2 + 1 = (k + 1) * 3 by omega] at s2
  exact ⟨s2, ⟨ho.frozenAt _, ho.frozenAt _, ho.frozenAt _⟩, ⟨hc _ (by omega), hc _ (by omega), hc _ (by omega)⟩, fun B a h hB => ((h.setCell hB _).setCell hB _).setCell hB _⟩

end Go.Proofs.YtkklhbofeghnbaaDoor

namespace Go.Proofs.YtkklhbofeghnbaaDoor
open Go.RowKit
set_option linter.unusedVariables false
set_option linter.unusedSimpArgs false

/-- Only the blocks of F turn. -/
structure Out (F : List Nat) (w w' : World) : Prop where
  os : w'.os = w.os
  tape : w'.tape = w.tape
  output : w'.output = w.output
  size : w.heap.size ≤ w'.heap.size
  block : ∀ k, k < w.heap.size → k ∉ F → w'.heap[k]? = w.heap[k]?
theorem Out.refl (F : List Nat) (w : World) : Out F w w := ⟨rfl, rfl, rfl, Nat.le_refl _, fun _ _ _ => rfl⟩
theorem Out.trans {F : List Nat} {a b c : World} (h : Out F a b) (k : Out F b c) : Out F a c :=
  ⟨k.os.trans h.os, k.tape.trans h.tape, k.output.trans h.output, Nat.le_trans h.size k.size, fun i hi hn => (k.block i (Nat.lt_of_lt_of_le hi h.size) hn).trans (h.block i hi hn)⟩
theorem Out.mono {F G : List Nat} {w w' : World} (h : Out F w w') (hF : ∀ k ∈ F, k ∈ G) : Out G w w' := ⟨h.os, h.tape, h.output, h.size, fun k hk hn => h.block k hk (fun e => hn (hF k e))⟩
theorem Out.of_below {F : List Nat} {w w' : World} (h : Below w.heap.size w w') : Out F w w' := ⟨h.os, h.tape, h.output, h.size, fun k hk _ => h.block k hk⟩
theorem Out.of_grown {w w' : World} {row : Option Nat} (h : w.grownBy w' row) : Out row.toList w w' := ⟨h.os, h.tape, h.output, h.size, fun k hk hn => h.block k hk (fun e => hn (by rw [← e]; simp))⟩
theorem Out.setCell (w : World) (g j : Nat) (u : Value) : Out [g] w (w.setCell ⟨g, j, none⟩ u) := ⟨rfl, rfl, rfl, by simp, fun k _ hn => Below.heap_setCell w _ _ k (by simpa using hn)⟩
theorem Out.keep {B : Nat} {F : List Nat} {a w w' : World} (h : Below B a w) (ho : Out F w w') (hB : B ≤ w.heap.size) (hF : ∀ k ∈ F, B ≤ k) : Below B a w' :=
  ⟨ho.os.trans h.os, ho.tape.trans h.tape, ho.output.trans h.output, Nat.le_trans h.size ho.size, fun k hk => (ho.block k (by omega) (fun e => by have := hF k e; omega)).trans (h.block k hk)⟩

/-- The block that a slice begins in. -/
def blk (v : Value) : List Nat := v.ownBlock.toList
theorem own_outs {w w' : World} {base e s n : Nat} {v : Value} {xs : List Value} {F : List Nat} (h : w.ownsRow base e s v n xs) (ho : Out F w w') (hd : ∀ k ∈ blk v, k ∉ F) : w'.ownsRow base e s v n xs := by
  refine ⟨h.1, ?_⟩
  rcases h.2 with h2 | ⟨g, cap, cur, hv, hg, hh, r⟩
  · exact Or.inl h2
  · refine Or.inr ⟨g, cap, cur, hv, hg, ?_, r⟩
    rw [ho.block g (Array.getElem?_eq_some_iff.1 hh).1 (hd g (by rw [hv]; simp [blk, Value.ownBlock]))]
    exact hh

/-- A kind of elements: their cells, when they are read and owned, and the blocks beneath them. -/
structure Kind (P : Type) where
  ty : Nat
  size : Nat
  cells : P → List Value
  own : World → P → Prop
  rd : World → P → Prop
  foot : P → List Nat
  len : ∀ p, (cells p).length = size
  own_rd : ∀ {w p}, own w p → rd w p
  own_out : ∀ {w w' p F}, own w p → Out F w w' → (∀ k ∈ foot p, k ∉ F) → own w' p
  own_lt : ∀ {w p}, own w p → ∀ k ∈ foot p, k < w.heap.size
  rd_below : ∀ {w w' p}, rd w p → Below w.heap.size w w' → rd w' p

section
variable {P : Type} (K : Kind P)
def Kind.row (ps : List P) : List Value := ps.flatMap K.cells
/-- The slice v reads as these elements. -/
def Kind.At (w : World) (v : Value) (ps : List P) : Prop := ∃ a cap, v = .slice a ps.length cap ∧ Lies w a (K.row ps) ∧ ∀ p ∈ ps, K.rd w p
/-- The slice v owns these elements. -/
def Kind.Own (w : World) (v : Value) (ps : List P) : Prop := w.ownsRow 0 K.ty K.size v ps.length (K.row ps) ∧ ∀ p ∈ ps, K.own w p
/-- All blocks beneath a slice. -/
def Kind.fp (v : Value) (ps : List P) : List Nat := blk v ++ ps.flatMap K.foot
end

section
variable {P : Type} {K : Kind P} {w w' : World} {v : Value} {ps : List P}

theorem Kind.row_length (ps : List P) : (K.row ps).length = ps.length * K.size := by
  induction ps with
  | nil => simp [Kind.row]
  | cons p r ih =>
    simp only [Kind.row, List.flatMap_cons, List.length_append, K.len, List.length_cons] at ih ⊢
    rw [ih, Nat.add_mul]
    omega
theorem Kind.row_get (ps : List P) (i : Nat) (hi : i < ps.length) (j : Nat) (hj : j < K.size) : (K.row ps)[i * K.size + j]? = (K.cells ps[i])[j]? := by
  induction ps generalizing i with
  | nil => simp at hi
  | cons p r ih =>
    simp only [Kind.row, List.flatMap_cons]
    cases i with
    | zero =>
      rw [List.getElem?_append_left (by rw [K.len]; omega)]
      simp
    | succ i =>
      rw [List.getElem?_append_right (by rw [K.len, Nat.add_mul]; omega), K.len]
      have := ih i (by simpa using hi)
      simp only [Kind.row] at this
      rw [show (i + 1) * K.size + j - K.size = i * K.size + j by rw [Nat.add_mul]; omega, this]
      simp
theorem Kind.row_out (ps : List P) (j : Nat) (h : ps.length * K.size ≤ j) : (K.row ps)[j]? = none := List.getElem?_eq_none (by rw [Kind.row_length]; exact h)

theorem Kind.Own.at (h : K.Own w v ps) : K.At w v ps := by
  obtain ⟨a, c, rfl⟩ := own_shape h.1
  exact ⟨a, c, rfl, Lies.own h.1, fun p hp => K.own_rd (h.2 p hp)⟩
theorem Kind.At.below (h : K.At w v ps) (hb : Below w.heap.size w w') : K.At w' v ps := by
  obtain ⟨a, c, e, hl, hr⟩ := h
  exact ⟨a, c, e, hl.below hb, fun p hp => K.rd_below (hr p hp) hb⟩
theorem Kind.At.shape (h : K.At w v ps) : ∃ a cap, v = .slice a ps.length cap := by
  obtain ⟨a, c, e, _⟩ := h
  exact ⟨a, c, e⟩
theorem Kind.Own.shape (h : K.Own w v ps) : ∃ a cap, v = .slice a ps.length cap := own_shape h.1
theorem Kind.Own.out {F : List Nat} (h : K.Own w v ps) (ho : Out F w w') (hd : ∀ k ∈ K.fp v ps, k ∉ F) : K.Own w' v ps := by
  refine ⟨own_outs h.1 ho (fun k hk => hd k (by simp [Kind.fp, hk])), fun p hp => K.own_out (h.2 p hp) ho (fun k hk => hd k ?_)⟩
  simp only [Kind.fp, List.mem_append, List.mem_flatMap]
  exact Or.inr ⟨p, hp, hk⟩
theorem Kind.Own.below (h : K.Own w v ps) (hb : Below w.heap.size w w') : K.Own w' v ps := h.out (Out.of_below (F := []) hb) (fun _ _ => by simp)
theorem Kind.Own.lt (h : K.Own w v ps) : ∀ k ∈ K.fp v ps, k < w.heap.size := by
  intro k hk
  simp only [Kind.fp, List.mem_append, List.mem_flatMap] at hk
  rcases hk with hk | ⟨p, hp, hk⟩
  · exact (h.1.lt k (by simpa [blk] using hk)).2
  · exact K.own_lt (h.2 p hp) k hk
/-- The cells of element i, where the slice is read. -/
theorem Kind.At.cell {a : Option Addr} {n cap : Nat} (h : K.At w (.slice a n cap) ps) (hs : 0 < K.size) (i : Nat) (hi : i < ps.length) :
    ∃ b off, a = some ⟨b, off, none⟩ ∧ b < w.heap.size ∧ (∀ j x, (K.cells ps[i])[j]? = some x → w.cell? ⟨b, off + i * K.size + j, none⟩ = some x) ∧ K.rd w ps[i] := by
  obtain ⟨a', c, e, hl, hr⟩ := h
  simp only [Value.slice.injEq] at e
  obtain ⟨rfl, _, _⟩ := e
  rcases hl with h0 | ⟨b, off, ha, hlt, hc⟩
  · have := Kind.row_length (K := K) ps
    rw [h0] at this
    simp only [List.length_nil] at this
    have h1 : 1 * K.size ≤ ps.length * K.size := Nat.mul_le_mul_right _ (by omega)
    omega
  · refine ⟨b, off, ha, hlt, fun j x hx => ?_, hr _ (List.getElem_mem hi)⟩
    have hj : j < K.size := by rw [← K.len ps[i]]; exact (List.getElem?_eq_some_iff.1 hx).1
    rw [show off + i * K.size + j = off + (i * K.size + j) by omega]
    exact hc _ _ (by rw [Kind.row_get ps i hi j hj]; exact hx)
/-- The block of a slice that is owned and not empty. -/
theorem Kind.Own.blkOf {a : Option Addr} {n cap : Nat} (h : K.Own w (.slice a n cap) ps) (hn : 0 < ps.length) : ∃ g, a = some ⟨g, 0, none⟩ := by
  rcases h.1.2 with ⟨he, h0⟩ | ⟨g, cap, cur, he, r⟩
  · omega
  · simp only [Value.slice.injEq] at he
    exact ⟨g, he.1⟩
theorem Kind.Own.cell {g n cap : Nat} (h : K.Own w (.slice (some ⟨g, 0, none⟩) n cap) ps) (i : Nat) (hi : i < ps.length) (j : Nat) (x : Value) (hx : (K.cells ps[i])[j]? = some x) : w.cell? ⟨g, i * K.size + j, none⟩ = some x ∧ w.frozen? ⟨g, i * K.size + j, none⟩ = false := by
  obtain ⟨a', c, e⟩ := h.shape
  simp only [Value.slice.injEq] at e
  obtain ⟨_, rfl, _⟩ := e
  have hj : j < K.size := by rw [← K.len ps[i]]; exact (List.getElem?_eq_some_iff.1 hx).1
  have hlt : i * K.size + j < ps.length * K.size := by
    have : (i + 1) * K.size ≤ ps.length * K.size := Nat.mul_le_mul_right _ (by omega)
    rw [Nat.add_mul] at this
    omega
  exact ⟨by rw [h.1.cellAt _ hlt, Kind.row_get ps i hi j hj]; exact hx, h.1.frozenAt _⟩

/-- Cells that are written over from o on. -/
def setFrom (xs : List Value) (o : Nat) : List Value → List Value
  | [] => xs
  | y :: ys => setFrom (xs.set o y) (o + 1) ys
theorem setFrom_length (xs : List Value) (o : Nat) (ys : List Value) : (setFrom xs o ys).length = xs.length := by
  induction ys generalizing xs o with
  | nil => rfl
  | cons y ys ih => simp [setFrom, ih]
theorem setFrom_get (xs : List Value) (o : Nat) (ys : List Value) (j : Nat) (hj : j < xs.length) : (setFrom xs o ys)[j]? = if o ≤ j ∧ j < o + ys.length then ys[j - o]? else xs[j]? := by
  induction ys generalizing xs o with
  | nil =>
    rw [if_neg (by simp only [List.length_nil]; omega)]
    rfl
  | cons y ys ih =>
    rw [setFrom, ih (xs.set o y) (o + 1) (by simpa using hj)]
    by_cases h1 : o + 1 ≤ j ∧ j < o + 1 + ys.length
    · rw [if_pos h1, if_pos (by simp; omega), show j - o = (j - (o + 1)) + 1 by omega]
      simp
    · rw [if_neg h1, List.getElem?_set]
      by_cases h2 : o = j
      · subst h2
        rw [if_pos rfl, if_pos hj, if_pos (by simp)]
        simp
      · rw [if_neg h2, if_neg (by simp; omega)]
theorem Kind.row_put (ps : List P) (i : Nat) (hi : i < ps.length) (p : P) : setFrom (K.row ps) (i * K.size) (K.cells p) = K.row (ps.set i p) := by
  have hl := Kind.row_length (K := K) ps
  have hl2 := Kind.row_length (K := K) (ps.set i p)
  rw [List.length_set] at hl2
  have hi2 : (i + 1) * K.size ≤ ps.length * K.size := Nat.mul_le_mul_right _ (by omega)
  rw [Nat.add_mul, Nat.one_mul] at hi2
  apply List.ext_getElem?
  intro j
  by_cases hj : j < ps.length * K.size
  · rw [setFrom_get _ _ _ _ (by omega), K.len]
    have hs : 0 < K.size := by
      rcases Nat.eq_zero_or_pos K.size with h0 | h0
      · rw [h0] at hj; simp at hj
      · exact h0
    have hd := Nat.div_add_mod j K.size
    have hm := Nat.mod_lt j hs
    have hq : j / K.size < ps.length := Nat.div_lt_of_lt_mul (by rw [Nat.mul_comm]; exact hj)
    have e : j = j / K.size * K.size + j % K.size := by rw [Nat.mul_comm]; exact hd.symm
    have e2 := Kind.row_get (K := K) (ps.set i p) (j / K.size) (by simpa using hq) (j % K.size) hm
    rw [← e] at e2
    have e3 := Kind.row_get (K := K) ps (j / K.size) hq (j % K.size) hm
    rw [← e] at e3
    rw [e2, e3]
    by_cases hk : j / K.size = i
    · subst hk
      rw [if_pos (by omega)]
      simp only [List.getElem_set_self]
      congr 1
      omega
    · have hne : ¬ (i * K.size ≤ j ∧ j < i * K.size + K.size) := by
        rintro ⟨h1, h2⟩
        apply hk
        exact Nat.div_eq_of_lt_le (by omega) (by rw [Nat.add_mul]; omega)
      rw [if_neg hne, List.getElem_set_ne (Ne.symm hk)]
  · rw [List.getElem?_eq_none (by rw [setFrom_length]; omega), List.getElem?_eq_none (by omega)]
theorem Kind.row_store (ps : List P) (i : Nat) (hi : i < ps.length) (p : P) (j : Nat) (u : Value) (hc : K.cells p = (K.cells ps[i]).set j u) (hj : j < K.size) : (K.row ps).set (i * K.size + j) u = K.row (ps.set i p) := by
  rw [← Kind.row_put ps i hi p, hc]
  have hl := Kind.row_length (K := K) ps
  have hi2 : (i + 1) * K.size ≤ ps.length * K.size := Nat.mul_le_mul_right _ (by omega)
  rw [Nat.add_mul, Nat.one_mul] at hi2
  apply List.ext_getElem?
  intro k
  by_cases hk : k < ps.length * K.size
  · rw [setFrom_get _ _ _ _ (by omega), List.length_set, K.len, List.getElem?_set]
    by_cases h1 : i * K.size + j = k
    · subst h1
      rw [if_pos rfl, if_pos (by omega), if_pos (by omega), List.getElem?_set, if_pos (by omega), if_pos (by rw [K.len]; omega)]
    · rw [if_neg h1]
      by_cases h2 : i * K.size ≤ k ∧ k < i * K.size + K.size
      · rw [if_pos h2, List.getElem?_set, if_neg (by omega)]
        have := Kind.row_get (K := K) ps i hi (k - i * K.size) (by omega)
        rw [show i * K.size + (k - i * K.size) = k by omega] at this
        exact this
      · rw [if_neg h2]
  · rw [List.getElem?_eq_none (by simp; omega), List.getElem?_eq_none (by rw [setFrom_length]; omega)]

theorem foot_set (ps : List P) (i : Nat) (hi : i < ps.length) (p : P) (hf : K.foot p = K.foot ps[i]) : (ps.set i p).flatMap K.foot = ps.flatMap K.foot := by
  induction ps generalizing i with
  | nil => simp at hi
  | cons q r ih =>
    cases i with
    | zero => simp only [List.set_cons_zero, List.flatMap_cons, hf, List.getElem_cons_zero]
    | succ i => simp only [List.set_cons_succ, List.flatMap_cons, ih i (by simpa using hi) (by simpa using hf)]
theorem Kind.fp_set (v : Value) (ps : List P) (i : Nat) (hi : i < ps.length) (p : P) (hf : K.foot p = K.foot ps[i]) : K.fp v (ps.set i p) = K.fp v ps := by
  simp only [Kind.fp, foot_set ps i hi p hf]
theorem foot_apart {ps : List P} (h : (ps.flatMap K.foot).Nodup) (i : Nat) (hi : i < ps.length) (j : Nat) (hj : j < ps.length) (hne : i ≠ j) : ∀ k ∈ K.foot ps[j], k ∉ K.foot ps[i] := by
  induction ps generalizing i j with
  | nil => simp at hi
  | cons p r ih =>
    rw [List.flatMap_cons, List.nodup_append] at h
    obtain ⟨_, h2, h3⟩ := h
    intro k hk hk2
    cases i with
    | zero =>
      cases j with
      | zero => exact hne rfl
      | succ j =>
        simp only [List.getElem_cons_succ, List.getElem_cons_zero] at hk hk2
        exact h3 k hk2 k (List.mem_flatMap.2 ⟨_, List.getElem_mem (by simpa using hj), hk⟩) rfl
    | succ i =>
      cases j with
      | zero =>
        simp only [List.getElem_cons_succ, List.getElem_cons_zero] at hk hk2
        exact h3 k hk k (List.mem_flatMap.2 ⟨_, List.getElem_mem (by simpa using hi), hk2⟩) rfl
      | succ j =>
        simp only [List.getElem_cons_succ] at hk hk2
        exact ih h2 i (by simpa using hi) j (by simpa using hj) (by omega) k hk hk2
/-- One element is written over, its blocks and its other cells as they were. -/
theorem Kind.Own.store {g n cap : Nat} (h : K.Own w (.slice (some ⟨g, 0, none⟩) n cap) ps) (hnd : (K.fp (.slice (some ⟨g, 0, none⟩) n cap) ps).Nodup) (i : Nat) (hi : i < ps.length) (p : P) (j : Nat) (u : Value) (hj : j < K.size)
    (hc : K.cells p = (K.cells ps[i]).set j u) (hf : K.foot p = K.foot ps[i]) (hown : ∀ w', K.own w' ps[i] → K.own w' p) :
    K.Own (w.setCell ⟨g, i * K.size + j, none⟩ u) (.slice (some ⟨g, 0, none⟩) n cap) (ps.set i p) ∧ K.fp (.slice (some ⟨g, 0, none⟩) n cap) (ps.set i p) = K.fp (.slice (some ⟨g, 0, none⟩) n cap) ps := by
  obtain ⟨a', c, e⟩ := h.shape
  simp only [Value.slice.injEq] at e
  obtain ⟨_, rfl, _⟩ := e
  refine ⟨⟨?_, ?_⟩, Kind.fp_set _ ps i hi p hf⟩
  · have h1 := (h.1.stored (i * K.size + j) u).1
    rw [Kind.row_store ps i hi p j u hc hj] at h1
    rw [List.length_set]
    exact h1
  · have hg : ∀ q ∈ ps, ∀ k ∈ K.foot q, k ∉ [g] := by
      intro q hq k hk
      simp only [Kind.fp, blk, Value.ownBlock, Option.toList, List.cons_append, List.nil_append, List.nodup_cons] at hnd
      simp only [List.mem_singleton]
      rintro rfl
      exact hnd.1 (List.mem_flatMap.2 ⟨q, hq, hk⟩)
    have hall : ∀ q ∈ ps, K.own (w.setCell ⟨g, i * K.size + j, none⟩ u) q := fun q hq => K.own_out (h.2 q hq) (Out.setCell w g _ u) (hg q hq)
    intro q hq
    rcases List.mem_or_eq_of_mem_set hq with hq | rfl
    · exact hall q hq
    · exact hown _ (hall _ (List.getElem_mem hi))
/-- What lies beneath one element turns. -/
theorem Kind.Own.turn (h : K.Own w v ps) (hnd : (K.fp v ps).Nodup) (i : Nat) (hi : i < ps.length) (p : P) {F : List Nat} (ho : Out F w w') (hF : ∀ k ∈ F, k ∈ K.foot ps[i])
    (hc : K.cells p = K.cells ps[i]) (hf : K.foot p = K.foot ps[i]) (hown : K.own w' p) : K.Own w' v (ps.set i p) ∧ K.fp v (ps.set i p) = K.fp v ps := by
  have hnd2 := hnd
  simp only [Kind.fp] at hnd2
  rw [List.nodup_append] at hnd2
  refine ⟨⟨?_, ?_⟩, Kind.fp_set _ ps i hi p hf⟩
  · have e : K.row (ps.set i p) = K.row ps := by
      rw [← Kind.row_put ps i hi p, hc, Kind.row_put ps i hi ps[i], List.set_getElem_self]
    rw [e, List.length_set]
    refine own_outs h.1 ho (fun k hk hkF => ?_)
    exact hnd2.2.2 k hk k (List.mem_flatMap.2 ⟨ps[i], List.getElem_mem hi, hF k hkF⟩) rfl
  · intro q hq
    obtain ⟨j, hj, rfl⟩ := List.getElem_of_mem hq
    rw [List.length_set] at hj
    by_cases hij : i = j
    · subst hij
      rw [List.getElem_set_self]
      exact hown
    · rw [List.getElem_set_ne hij]
      exact K.own_out (h.2 _ (List.getElem_mem hj)) ho (fun k hk hkF => foot_apart hnd2.2.1 i hi j hj hij k hk (hF k hkF))
/-- A whole element is written over by a new one. -/
theorem Kind.Own.put {g n cap : Nat} (h : K.Own w (.slice (some ⟨g, 0, none⟩) n cap) ps) (i : Nat) (hi : i < ps.length) (p : P) (hrow : w'.ownsRow 0 K.ty K.size (.slice (some ⟨g, 0, none⟩) n cap) ps.length (setFrom (K.row ps) (i * K.size) (K.cells p)))
    (ho : Out [g] w w') (hg : ∀ q ∈ ps, ∀ k ∈ K.foot q, k ≠ g) (hown : K.own w p) (hp : ∀ k ∈ K.foot p, k ≠ g) : K.Own w' (.slice (some ⟨g, 0, none⟩) n cap) (ps.set i p) := by
  rw [Kind.row_put ps i hi p] at hrow
  refine ⟨by rw [List.length_set]; exact hrow, fun q hq => ?_⟩
  rcases List.mem_or_eq_of_mem_set hq with hq | rfl
  · exact K.own_out (h.2 q hq) ho (fun k hk => by simpa using hg q hq k hk)
  · exact K.own_out hown ho (fun k hk => by simpa using hp k hk)

/-- Marks: from c on, element by element. -/
def mkL (mk : Int → P → P) (nm : P → Nat) : Int → List P → List P
  | _, [] => []
  | c, p :: r => mk c p :: mkL mk nm (c + nm p) r
def nmL (nm : P → Nat) (ps : List P) : Nat := (ps.map nm).sum
theorem mkL_length (mk : Int → P → P) (nm : P → Nat) (c : Int) (ps : List P) : (mkL mk nm c ps).length = ps.length := by
  induction ps generalizing c with
  | nil => rfl
  | cons p r ih => simp [mkL, ih]
theorem nmL_succ (nm : P → Nat) (ps : List P) (k : Nat) (h : k < ps.length) : nmL nm (ps.take (k + 1)) = nmL nm (ps.take k) + nm ps[k] := by
  rw [List.take_succ_eq_append_getElem h]
  simp only [nmL, List.map_append, List.map_cons, List.map_nil, List.sum_append, List.sum_cons, List.sum_nil, Nat.add_zero]
theorem nmL_le (nm : P → Nat) (ps : List P) (k : Nat) : nmL nm (ps.take k) ≤ nmL nm ps := by
  have e : nmL nm ps = nmL nm (ps.take k) + nmL nm (ps.drop k) := by
    conv => lhs; rw [← List.take_append_drop k ps]
    simp only [nmL, List.map_append, List.sum_append]
  omega
theorem mkL_get (mk : Int → P → P) (nm : P → Nat) (c : Int) (ps : List P) (k : Nat) (h : k < ps.length) : (mkL mk nm c ps)[k]'(by rw [mkL_length]; exact h) = mk (c + nmL nm (ps.take k)) ps[k] := by
  induction ps generalizing c k with
  | nil => simp at h
  | cons p r ih =>
    cases k with
    | zero => simp [mkL, nmL]
    | succ k =>
      simp only [mkL, List.getElem_cons_succ, List.take_succ_cons]
      rw [ih (c + nm p) k (by simpa using h)]
      congr 1
      simp only [nmL, List.map_cons, List.sum_cons]
      omega
/-- The first k elements marked. -/
def half (mk : Int → P → P) (nm : P → Nat) (c : Int) (ps : List P) (k : Nat) : List P := (mkL mk nm c ps).take k ++ ps.drop k
theorem half_zero (mk : Int → P → P) (nm : P → Nat) (c : Int) (ps : List P) : half mk nm c ps 0 = ps := by simp [half]
theorem half_all (mk : Int → P → P) (nm : P → Nat) (c : Int) (ps : List P) : half mk nm c ps ps.length = mkL mk nm c ps := by
  have := mkL_length mk nm c ps
  simp [half, List.take_of_length_le (show (mkL mk nm c ps).length ≤ ps.length by omega)]
theorem half_length (mk : Int → P → P) (nm : P → Nat) (c : Int) (ps : List P) (k : Nat) (hk : k ≤ ps.length) : (half mk nm c ps k).length = ps.length := by
  have := mkL_length mk nm c ps
  simp [half]
  omega
theorem half_get (mk : Int → P → P) (nm : P → Nat) (c : Int) (ps : List P) (k : Nat) (hk : k < ps.length) : (half mk nm c ps k)[k]'(by rw [half_length _ _ _ _ _ (by omega)]; exact hk) = ps[k] := by
  have := mkL_length mk nm c ps
  simp only [half]
  rw [List.getElem_append_right (by simp; omega)]
  simp only [List.length_take, this, List.getElem_drop]
  congr 1
  omega
theorem half_set (mk : Int → P → P) (nm : P → Nat) (c : Int) (ps : List P) (k : Nat) (hk : k < ps.length) : (half mk nm c ps k).set k (mk (c + nmL nm (ps.take k)) ps[k]) = half mk nm c ps (k + 1) := by
  have hm := mkL_length mk nm c ps
  rw [← mkL_get mk nm c ps k hk]
  simp only [half]
  rw [List.set_append_right _ _ (by simp; omega), show k - ((mkL mk nm c ps).take k).length = 0 by simp; omega, List.drop_eq_getElem_cons hk, List.set_cons_zero, List.take_succ_eq_append_getElem (show k < (mkL mk nm c ps).length by omega), List.append_assoc]
  rfl

end

end Go.Proofs.YtkklhbofeghnbaaDoor

namespace Go.Proofs.YtkklhbofeghnbaaDoor
open Go.RowKit
set_option linter.unusedVariables false
set_option linter.unusedSimpArgs false

section
variable {P : Type} {K : Kind P} {w w' : World} {v : Value} {ps : List P}

theorem made_row (z : P) (n : Nat) (hs : 0 < K.size) : (madeCells (K.cells z).toArray (n * K.size)).toList = K.row (List.replicate n z) := by
  have hl := Kind.row_length (K := K) (List.replicate n z)
  rw [List.length_replicate] at hl
  apply List.ext_getElem?
  intro j
  by_cases hj : j < n * K.size
  · have hm := Nat.mod_lt j hs
    have hq : j / K.size < n := Nat.div_lt_of_lt_mul (by rw [Nat.mul_comm]; exact hj)
    have e : j = j / K.size * K.size + j % K.size := by rw [Nat.mul_comm]; exact (Nat.div_add_mod j K.size).symm
    have e2 := Kind.row_get (K := K) (List.replicate n z) (j / K.size) (by simpa using hq) (j % K.size) hm
    rw [← e] at e2
    rw [e2]
    have hz : (K.cells z).length = K.size := K.len z
    simp only [madeCells, Array.toList_map, Array.toList_range, List.getElem?_map, List.getElem?_range hj, Option.map_some, List.size_toArray, hz, List.getElem_replicate]
    rw [List.getElem!_toArray, List.getElem?_eq_getElem (by omega), getElem!_pos (K.cells z) (j % K.size) (by omega)]
  · rw [List.getElem?_eq_none (by simp [size_madeCells]; omega), List.getElem?_eq_none (by omega)]

theorem fp_new {z : P} {n g cap : Nat} (hz : K.foot z = []) : K.fp (.slice (some ⟨g, 0, none⟩) n cap) (List.replicate n z) = [g] := by
  have : (List.replicate n z).flatMap K.foot = [] := by
    rw [List.flatMap_eq_nil_iff]
    intro x hx
    rw [(List.mem_replicate.1 hx).2, hz]
  simp [Kind.fp, blk, Value.ownBlock, this]
theorem set_split (ps : List P) (i : Nat) (hi : i < ps.length) (p : P) : ps.set i p = ps.take i ++ p :: ps.drop (i + 1) := by
  rw [List.set_eq_take_append_cons_drop, if_pos hi]
theorem mem_foot_set {ps : List P} {i : Nat} (hi : i < ps.length) {p : P} {k : Nat} (h : k ∈ (ps.set i p).flatMap K.foot) : k ∈ ps.flatMap K.foot ∨ k ∈ K.foot p := by
  obtain ⟨q, hq, hk⟩ := List.mem_flatMap.1 h
  rcases List.mem_or_eq_of_mem_set hq with hq | rfl
  · exact Or.inl (List.mem_flatMap.2 ⟨q, hq, hk⟩)
  · exact Or.inr hk
theorem nodup_put {ps : List P} (h : (K.fp v ps).Nodup) (i : Nat) (hi : i < ps.length) (p : P) (h0 : K.foot ps[i] = []) (hp : (K.foot p).Nodup) (hd : ∀ k ∈ K.foot p, k ∉ K.fp v ps) : (K.fp v (ps.set i p)).Nodup := by
  have e : ps = ps.take i ++ ps[i] :: ps.drop (i + 1) := by
    conv => lhs; rw [← List.take_append_drop i ps, List.drop_eq_getElem_cons hi]
  have hA : K.fp v ps = blk v ++ ((ps.take i).flatMap K.foot ++ (ps.drop (i + 1)).flatMap K.foot) := by
    conv => lhs; rw [e]
    simp only [Kind.fp, List.flatMap_append, List.flatMap_cons, h0, List.nil_append]
  rw [hA] at h hd
  simp only [Kind.fp]
  rw [set_split ps i hi p]
  simp only [List.flatMap_append, List.flatMap_cons]
  generalize blk v = A at *
  generalize (ps.take i).flatMap K.foot = B at *
  generalize (ps.drop (i + 1)).flatMap K.foot = C at *
  generalize K.foot p = D at *
  simp only [List.nodup_append, List.mem_append] at h hd ⊢
  obtain ⟨hA1, ⟨hB1, hC1, hBC⟩, hABC⟩ := h
  refine ⟨hA1, ⟨hB1, ⟨hp, hC1, ?_⟩, ?_⟩, ?_⟩
  · rintro a ha b hb rfl
    exact hd a ha (Or.inr (Or.inr hb))
  · rintro a ha b (hb | hb) rfl
    · exact hd a hb (Or.inr (Or.inl ha))
    · exact hBC a ha a hb rfl
  · rintro a ha b (hb | hb | hb) rfl
    · exact hABC a ha a (Or.inl hb) rfl
    · exact hd a hb (Or.inl ha)
    · exact hABC a ha a (Or.inr hb) rfl

section
variable {g n cap k : Nat} {hs : List P} {p : P}
theorem Kind.Own.elem' (h : K.Own w v (hs.set k p)) (hk : k < hs.length) : K.own w p := h.2 p (List.mem_set hk p)
theorem Kind.Own.cell' (h : K.Own w (.slice (some ⟨g, 0, none⟩) n cap) (hs.set k p)) (hk : k < hs.length) (j : Nat) (x : Value) (hx : (K.cells p)[j]? = some x) : w.cell? ⟨g, k * K.size + j, none⟩ = some x ∧ w.frozen? ⟨g, k * K.size + j, none⟩ = false :=
  h.cell k (by simpa using hk) j x (by rw [List.getElem_set_self]; exact hx)
theorem Kind.Own.store' (h : K.Own w (.slice (some ⟨g, 0, none⟩) n cap) (hs.set k p)) (hnd : (K.fp (.slice (some ⟨g, 0, none⟩) n cap) (hs.set k p)).Nodup) (hk : k < hs.length) (p' : P) (j : Nat) (u : Value) (hj : j < K.size)
    (hc : K.cells p' = (K.cells p).set j u) (hf : K.foot p' = K.foot p) (hown : ∀ w', K.own w' p → K.own w' p') :
    K.Own (w.setCell ⟨g, k * K.size + j, none⟩ u) (.slice (some ⟨g, 0, none⟩) n cap) (hs.set k p') ∧ (K.fp (.slice (some ⟨g, 0, none⟩) n cap) (hs.set k p')).Nodup := by
  have hk' : k < (hs.set k p).length := by simpa using hk
  have e : (hs.set k p)[k] = p := List.getElem_set_self (h := hk')
  obtain ⟨h1, h2⟩ := h.store hnd k hk' p' j u hj (by rw [e]; exact hc) (by rw [e]; exact hf) (by rw [e]; exact hown)
  rw [List.set_set] at h1 h2
  exact ⟨h1, by rw [h2]; exact hnd⟩
theorem Kind.Own.turn' (h : K.Own w v (hs.set k p)) (hnd : (K.fp v (hs.set k p)).Nodup) (hk : k < hs.length) (p' : P) {F : List Nat} (ho : Out F w w') (hF : ∀ x ∈ F, x ∈ K.foot p) (hc : K.cells p' = K.cells p) (hf : K.foot p' = K.foot p) (hown : K.own w' p') :
    K.Own w' v (hs.set k p') ∧ (K.fp v (hs.set k p')).Nodup := by
  have hk' : k < (hs.set k p).length := by simpa using hk
  have e : (hs.set k p)[k] = p := List.getElem_set_self (h := hk')
  obtain ⟨h1, h2⟩ := h.turn hnd k hk' p' ho (by rw [e]; exact hF) (by rw [e]; exact hc) (by rw [e]; exact hf) hown
  rw [List.set_set] at h1 h2
  exact ⟨h1, by rw [h2]; exact hnd⟩
end
theorem foot_mkL {mk : Int → P → P} {nm : P → Nat} (hf : ∀ c p, K.foot (mk c p) = K.foot p) (c : Int) (ps : List P) : (mkL mk nm c ps).flatMap K.foot = ps.flatMap K.foot := by
  induction ps generalizing c with
  | nil => rfl
  | cons p r ih => simp only [mkL, List.flatMap_cons, hf, ih]
theorem fp_mkL {mk : Int → P → P} {nm : P → Nat} (hf : ∀ c p, K.foot (mk c p) = K.foot p) (v : Value) (c : Int) (ps : List P) : K.fp v (mkL mk nm c ps) = K.fp v ps := by simp only [Kind.fp, foot_mkL hf]
theorem fp_half {mk : Int → P → P} {nm : P → Nat} (hf : ∀ c p, K.foot (mk c p) = K.foot p) (v : Value) (c : Int) (ps : List P) (k : Nat) : K.fp v (half mk nm c ps k) = K.fp v ps := by
  have h1 : ((mkL mk nm c ps).take k).flatMap K.foot = (ps.take k).flatMap K.foot := by
    have e : (mkL mk nm c ps).take k = mkL mk nm c (ps.take k) := by
      induction ps generalizing c k with
      | nil => simp [mkL]
      | cons p r ih =>
        cases k with
        | zero => simp [mkL]
        | succ k => simp only [mkL, List.take_succ_cons, ih]
    rw [e, foot_mkL hf]
  simp only [Kind.fp, half, List.flatMap_append, h1]
  rw [← List.flatMap_append, List.take_append_drop]

end

theorem Out.set {F : List Nat} {w W : World} {b j : Nat} {u : Value} (h : Out F w W) (hb : b ∈ F) : Out F w (W.setCell ⟨b, j, none⟩ u) := h.trans ((Out.setCell W b j u).mono (fun k hk => by simp only [List.mem_singleton] at hk; rw [hk]; exact hb))
theorem Out.call {F : List Nat} {w W W' : World} (h : Out F w W) (hb : Below W.heap.size W W') : Out F w W' := h.trans (Out.of_below hb)
theorem Below.call {B : Nat} {w W W' : World} (h : Below B w W) (hs : B ≤ W.heap.size) (hb : Below W.heap.size W W') : Below B w W' := h.trans (hb.mono hs)
/-- A row of cells is written over, place by place. -/
theorem own_setFrom {w : World} {base e s g n cap : Nat} {xs : List Value} (h : w.ownsRow base e s (.slice (some ⟨g, 0, none⟩) n cap) n xs) (o : Nat) (ys : List Value) :
    (ys.zipIdx.foldl (fun w (y : Value × Nat) => w.setCell ⟨g, o + y.2, none⟩ y.1) w).ownsRow base e s (.slice (some ⟨g, 0, none⟩) n cap) n (setFrom xs o ys) := by
  suffices H : ∀ (ys : List Value) (w : World) (xs : List Value) (d : Nat), w.ownsRow base e s (.slice (some ⟨g, 0, none⟩) n cap) n xs → ((ys.zipIdx d).foldl (fun w (y : Value × Nat) => w.setCell ⟨g, o + y.2, none⟩ y.1) w).ownsRow base e s (.slice (some ⟨g, 0, none⟩) n cap) n (setFrom xs (o + d) ys) from H ys w xs 0 h
  intro ys
  induction ys with
  | nil => intro w xs d h; exact h
  | cons y ys ih =>
    intro w xs d h
    have := ih (w.setCell ⟨g, o + d, none⟩ y) (xs.set (o + d) y) (d + 1) (h.stored (o + d) y).1
    simpa [List.zipIdx_cons, setFrom, Nat.add_assoc] using this

end Go.Proofs.YtkklhbofeghnbaaDoor

namespace Go.Proofs.YtkklhbofeghnbaaDoor
open Go.RowKit
set_option linter.unusedVariables false
set_option linter.unusedSimpArgs false

/-- The region of that number, out of a function's code. -/
def regNo (n : Nat) : Code → Option Code
  | .region i ops d => if i = n then some (.region i ops d) else none
  | .seq a b => match regNo n a with
    | some c => some c
    | none => regNo n b
  | .cond _ a b => match regNo n a with
    | some c => some c
    | none => regNo n b
  | .block _ c => regNo n c
  | .loop c => regNo n c
  | .scope c => regNo n c
  | _ => none

/-- The worlds that have new memory alone beside w. -/
structure Lat (w : World) where
  val : World
  isBelow : Below w.heap.size w val

/-- The worlds that are as w below B. -/
structure LatB (B : Nat) (w : World) where
  val : World
  isBelow : Below B w val

/-- Operations that yield one value and nothing else. -/
def plainB : Op → Bool
  | .move _ => true
  | .assign _ => true
  | .pick _ _ _ => true
  | .load _ _ => true
  | .fieldAddr _ _ _ => true
  | .field _ _ _ => true
  | .binOp _ _ _ _ _ => true
  | .unOp _ _ _ => true
  | .convert _ _ _ => true
  | .indexAddr _ _ _ => true
  | .extract _ _ => true
  | .nilCheck _ => true
  | .build _ _ => true
  | _ => false

theorem value_of_bind {P : Program} {s : Sem Value} {w w' : World} {n : Next} (h : (do let x ← s; pure (Next.value x) : Sem Next).run P w = .ok n w') : ∃ v, n = .value v := by
  rw [Sem.run_bind] at h
  cases hs : s.run P w with
  | ok x w1 =>
    rw [hs] at h
    simp [Result.andThen, Sem.run_pure] at h
    exact ⟨x, h.1.symm⟩
  | halt x w1 =>
    rw [hs] at h
    simp [Result.andThen] at h

theorem value_of_nil {P : Program} {g : Program → Sem (Option Bool)} {u : Unsupported} {x : Value} {w w' : World} {n : Next}
    (h : (do let p ← program; let r ← g p; if (r != some false) = true then do unsupported u; pure (Next.value x) else pure (Next.value x) : Sem Next).run P w = .ok n w') : ∃ v, n = .value v := by
  simp only [Sem.run_bind, run_program, Result.andThen_ok] at h
  cases hs : (g P).run P w with
  | ok r w1 =>
    rw [hs] at h
    simp only [Result.andThen_ok] at h
    split at h
    · rw [Sem.run_bind] at h
      cases hu : (unsupported u : Sem Unit).run P w1 with
      | ok r w2 => rw [hu] at h; simp [Sem.run_pure] at h; exact ⟨_, h.1.symm⟩
      | halt r w2 => rw [hu] at h; simp [Result.andThen] at h
    · simp [Sem.run_pure] at h; exact ⟨_, h.1.symm⟩
  | halt r w1 => rw [hs] at h; simp [Result.andThen] at h

theorem plain_value {P : Program} {o : Oper} {ρ : Operand → Value} {w w' : World} {n : Next} (hp : plainB o.op = true) (h : (execOp ρ o).run P w = .ok n w') : ∃ v, n = .value v := by
  unfold execOp at h
  cases hop : o.op <;> rw [hop] at hp <;> simp only [plainB, Bool.false_eq_true] at hp <;> rw [hop] at h <;> dsimp only at h
  all_goals first
    | exact value_of_bind h
    | (simp [Sem.run_pure] at h; exact ⟨_, h.1.symm⟩)
    | (split at h
       all_goals first
         | (simp [Sem.run_pure] at h; exact ⟨_, h.1.symm⟩)
         | (simp [go_sem] at h; done)
         | (split at h
            all_goals first
              | (simp [Sem.run_pure] at h; exact ⟨_, h.1.symm⟩)
              | (simp [go_sem] at h; done)
              | (exact value_of_nil (g := fun p => nilAhead (p.types.size + Made.depth) _ _ _) h)))
    | (rw [Sem.run_bind] at h
       revert h
       cases (asBool (ρ _)).run P w with
       | ok x w1 => intro h; simp [Result.andThen, Sem.run_pure] at h; exact ⟨_, h.1.symm⟩
       | halt x w1 => intro h; simp [Result.andThen] at h)

section
variable {P : Program} {ops : Array Oper} {Q : Exit → Act → World → Prop} {S : World → Prop}

/-- These may come up one behind the other, each ahead of all that has not come up. -/
def okSeg (ops : Array Oper) : List Nat → Array Bool → Bool
  | [], _ => true
  | i :: r, l => Region.free .any ops l i && (Region.ready .any ops l).contains i && okSeg ops r (l.setIfInBounds i true)

/-- What has come up behind these. -/
def upTo : List Nat → Array Bool → Array Bool
  | [], l => l
  | i :: r, l => upTo r (l.setIfInBounds i true)

/-- The numbers, and the operations, of ranges (from, how many). -/
def idxR (rs : List (Nat × Nat)) : List Nat := rs.flatMap fun r => (List.range r.2).map (r.1 + ·)
def pickR (l : List Oper) (rs : List (Nat × Nat)) : List Oper := rs.flatMap fun r => (l.drop r.1).take r.2

theorem pkE : (∀ (l : List Oper) (rs : List (Nat × Nat)), pickR l rs = rs.flatMap fun r => (l.drop r.1).take r.2) ∧ (∀ l : List Oper, l.toArray.toList = l) ∧
    (∀ (f : Nat × Nat → List Oper) (x : Nat × Nat) (xs : List (Nat × Nat)), (x :: xs).flatMap f = f x ++ xs.flatMap f) ∧ (∀ f : Nat × Nat → List Oper, List.flatMap f [] = []) ∧
    (∀ (o : Oper) (l : List Oper) (i : Nat), (o :: l).drop (i + 1) = l.drop i) ∧ (∀ l : List Oper, l.drop 0 = l) ∧ (∀ (o : Oper) (l : List Oper) (i : Nat), (o :: l).take (i + 1) = o :: l.take i) ∧ (∀ l : List Oper, l.take 0 = []) ∧
    (∀ (o : Oper) (l m : List Oper), (o :: l) ++ m = o :: (l ++ m)) ∧ (∀ l : List Oper, [] ++ l = l) ∧ (∀ l : List Oper, l ++ [] = l) :=
  ⟨fun _ _ => rfl, fun _ => rfl, fun _ _ _ => List.flatMap_cons, fun _ => rfl, fun _ _ _ => rfl, fun _ => rfl, fun _ _ _ => rfl, fun _ => rfl, fun _ _ _ => rfl, fun _ => rfl, fun _ => List.append_nil _⟩

theorem seg_sound (hs : Region.noSelect ops = true) (hQ : ∀ c a d v w, Q (.panic c) (a.put d v) w → Q (.panic c) a w) :
    ∀ (idx : List Nat) (os : List Oper) (l : Array Bool) (a : Act) (w : World) (fuel : Nat), idx.map (ops[·]?) = os.map some → os.all (fun o => plainB o.op) = true → okSeg ops idx l = true → S w →
      wpQuiet P ops S (fun a' => wpAnyH P .any ops Q S fuel (upTo idx l) a' w) os a → wpAnyH P .any ops Q S (fuel + idx.length) l a w := by
  intro idx
  induction idx with
  | nil =>
    intro os l a w fuel hos _ _ _ h
    cases os with
    | nil => exact h
    | cons o os => simp at hos
  | cons i r ih =>
    intro os l a w fuel hos hpl hok hS h
    cases os with
    | nil => simp at hos
    | cons o os =>
      simp only [List.map_cons, List.cons.injEq] at hos
      simp only [List.all_cons, Bool.and_eq_true] at hpl
      simp only [okSeg, Bool.and_eq_true] at hok
      obtain ⟨⟨hf, hr⟩, hok'⟩ := hok
      simp only [wpQuiet] at h
      by_cases hw : Region.wanted o (yielded ops a.tmps) = true
      · rw [if_pos hw] at h
        obtain ⟨v, hv, hk⟩ := h
        refine wpAnyH_take (i := i) (oi := o) (v := v) hos.1 hs hf hr (fun c a w => hQ c a _ _ w) (Or.inl ⟨hw, fun u hu => ?_⟩) hS (ih os _ _ w fuel hos.2 hpl.2 hok' hS hk)
        have hq := hv u hu
        unfold Oper.quietAt at hq
        cases hrun : (execOp a.eval o).run P u with
        | ok n u' =>
          obtain ⟨x, rfl⟩ := plain_value hpl.1 hrun
          rw [hrun] at hq
          obtain ⟨e1, e2⟩ := hq
          rw [e1, e2]
        | halt x u' =>
          rw [hrun] at hq
          exact hq.elim
      · rw [if_neg hw] at h
        have hw' : Region.wanted o (yielded ops a.tmps) = false := by simpa using hw
        exact wpAnyH_take (i := i) (oi := o) (v := undef) hos.1 hs hf hr (fun c a w => hQ c a _ _ w) (Or.inr ⟨hw', rfl⟩) hS (ih os _ _ w fuel hos.2 hpl.2 hok' hS h)

/-- An operation whose guard says no. -/
theorem skip_sound (hs : Region.noSelect ops = true) (hQ : ∀ c a d v w, Q (.panic c) (a.put d v) w → Q (.panic c) a w) (i : Nat) (d : Option Tmp) {l : Array Bool} {a : Act} {w : World} {fuel : Nat}
    (hd : (ops[i]?).map (·.dst) = some d) (hok : okSeg ops [i] l = true) (hw : (ops[i]?).map (fun o => Region.wanted o (yielded ops a.tmps)) = some false) (hS : S w)
    (h : wpAnyH P .any ops Q S fuel (upTo [i] l) (a.put d undef) w) : wpAnyH P .any ops Q S (fuel + 1) l a w := by
  cases ho : ops[i]? with
  | none => rw [ho] at hd; simp at hd
  | some o =>
    rw [ho] at hd hw
    simp only [Option.map_some, Option.some.injEq] at hd hw
    subst hd
    simp only [okSeg, Bool.and_eq_true, Bool.and_true] at hok
    exact wpAnyH_take (i := i) (oi := o) (v := undef) ho hs hok.1 hok.2 (fun c a w => hQ c a _ _ w) (Or.inr ⟨hw, rfl⟩) hS h

/-- A call that alone may come up: by its contract, S shown anew. -/
theorem call_sound (i : Nat) (d : Option Tmp) (f : Nat) (args : Array Value) {l : Array Bool} {a : Act} {w : World} {fuel : Nat}
    (hd : (ops[i]?).map (·.dst) = some d) (hr : Region.ready .any ops l = [i]) (hw : (ops[i]?).map (fun o => Region.wanted o (yielded ops a.tmps)) = some true)
    (hrun : (ops[i]?).map (fun o => (execOp a.eval o).run P w) = some (.ok (.enter f args) w))
    (hc : Calls P f args w (fun e w' => ∃ v, e = .returned v ∧ S w' ∧ wpAnyH P .any ops Q S fuel (upTo [i] l) (a.put d v) w')) : wpAnyH P .any ops Q S (fuel + 1) l a w := by
  cases ho : ops[i]? with
  | none => rw [ho] at hd; simp at hd
  | some o =>
    rw [ho] at hd hw hrun
    simp only [Option.map_some, Option.some.injEq] at hd hw hrun
    subst hd
    refine wpAnyH_all hr (by simp) (fun j hj => ?_)
    simp only [List.mem_singleton] at hj
    subst hj
    unfold wpOp
    simp only [ho, hw, if_true]
    refine .inl ?_
    unfold Oper.wp
    rw [hrun]
    simp only [Oper.upon]
    refine hc.mono fun e w' he => ?_
    obtain ⟨v, rfl, h1, h2⟩ := he
    exact ⟨h1, h2⟩

/-- The same over ranges; the fuel as it stands. -/
theorem seg_range (rs : List (Nat × Nat)) (fuel : Nat) {F : Nat} {l : Array Bool} {a : Act} {w : World} (hF : F = fuel + (idxR rs).length) (hs : Region.noSelect ops = true) (hm : (idxR rs).map (ops[·]?) = (pickR ops.toList rs).map some)
    (hp : (pickR ops.toList rs).all (fun o => plainB o.op) = true) (hok : okSeg ops (idxR rs) l = true) (hS : S w)
    (h : wpQuiet P ops S (fun a' => wpAnyH P .any ops (NoPanic Q) S fuel (upTo (idxR rs) l) a' w) (pickR ops.toList rs) a) : wpAnyH P .any ops (NoPanic Q) S F l a w := by
  subst hF
  exact seg_sound hs (fun _ _ _ _ _ h => h) (idxR rs) _ l a w fuel hm hp hok hS h

theorem skip_at (i : Nat) (d : Option Tmp) (fuel : Nat) {F : Nat} {l : Array Bool} {a : Act} {w : World} (hF : F = fuel + 1) (hs : Region.noSelect ops = true)
    (hd : (ops[i]?).map (·.dst) = some d) (hok : okSeg ops [i] l = true) (hw : (ops[i]?).map (fun o => Region.wanted o (yielded ops a.tmps)) = some false) (hS : S w)
    (h : wpAnyH P .any ops (NoPanic Q) S fuel (upTo [i] l) (a.put d undef) w) : wpAnyH P .any ops (NoPanic Q) S F l a w := by
  subst hF
  exact skip_sound hs (fun _ _ _ _ _ h => h) i d hd hok hw hS h

theorem call_at (i : Nat) (d : Option Tmp) (f : Nat) (args : Array Value) (fuel : Nat) {F : Nat} {l : Array Bool} {a : Act} {w : World} (hF : F = fuel + 1)
    (hd : (ops[i]?).map (·.dst) = some d) (hr : Region.ready .any ops l = [i]) (hw : (ops[i]?).map (fun o => Region.wanted o (yielded ops a.tmps)) = some true)
    (hrun : (ops[i]?).map (fun o => (execOp a.eval o).run P w) = some (.ok (.enter f args) w))
    (hc : Calls P f args w (fun e w' => ∃ v, e = .returned v ∧ S w' ∧ wpAnyH P .any ops (NoPanic Q) S fuel (upTo [i] l) (a.put d v) w')) : wpAnyH P .any ops (NoPanic Q) S F l a w := by
  subst hF
  exact call_sound i d f args hd hr hw hrun hc

theorem sgr (rs : List (Nat × Nat)) (fuel : Nat) {F : Nat} {l : Array Bool} {a : Act} {w : World} (h5 : (F, Region.noSelect ops, (idxR rs).map (ops[·]?), (pickR ops.toList rs).all (fun o => plainB o.op), okSeg ops (idxR rs) l) = (fuel + (idxR rs).length, true, (pickR ops.toList rs).map some, true, true)) (hS : S w)
    (h : wpQuiet P ops S (fun a' => wpAnyH P .any ops (NoPanic Q) S fuel (upTo (idxR rs) l) a' w) (pickR ops.toList rs) a) : wpAnyH P .any ops (NoPanic Q) S F l a w := by
  simp only [Prod.mk.injEq] at h5
  exact seg_range rs fuel h5.1 h5.2.1 h5.2.2.1 h5.2.2.2.1 h5.2.2.2.2 hS h

theorem ska (i : Nat) (d : Option Tmp) (fuel : Nat) {F : Nat} {l : Array Bool} {a : Act} {w : World} (h5 : (F, Region.noSelect ops, (ops[i]?).map (·.dst), okSeg ops [i] l, (ops[i]?).map (fun o => Region.wanted o (yielded ops a.tmps))) = (fuel + 1, true, some d, true, some false)) (hS : S w)
    (h : wpAnyH P .any ops (NoPanic Q) S fuel (upTo [i] l) (a.put d undef) w) : wpAnyH P .any ops (NoPanic Q) S F l a w := by
  simp only [Prod.mk.injEq] at h5
  exact skip_at i d fuel h5.1 h5.2.1 h5.2.2.1 h5.2.2.2.1 h5.2.2.2.2 hS h

theorem cla (i : Nat) (d : Option Tmp) (f : Nat) (args : Array Value) (fuel : Nat) {F : Nat} {l : Array Bool} {a : Act} {w : World} (h5 : (F, (ops[i]?).map (·.dst), Region.ready .any ops l, (ops[i]?).map (fun o => Region.wanted o (yielded ops a.tmps)), (ops[i]?).map (fun o => (execOp a.eval o).run P w)) = (fuel + 1, some d, [i], some true, some (.ok (.enter f args) w)))
    (hc : Calls P f args w (fun e w' => ∃ v, e = .returned v ∧ S w' ∧ wpAnyH P .any ops (NoPanic Q) S fuel (upTo [i] l) (a.put d v) w')) : wpAnyH P .any ops (NoPanic Q) S F l a w := by
  simp only [Prod.mk.injEq] at h5
  exact call_at i d f args fuel h5.1 h5.2.1 h5.2.2.1 h5.2.2.2.1 h5.2.2.2.2 hc

/-- What one operation of a region is to come to. -/
def ThenGo (Q : Exit → Act → World → Prop) (K : Act → World → Prop) : Exit → Act → World → Prop
  | .normal, a, w => K a w
  | e, a, w => NoPanic Q e a w
theorem ThenGo.to {K : Act → World → Prop} {a : Act} {w : World} (h : K a w) : ThenGo Q K .normal a w := h

/-- An operation that alone may come up, whatever it does: walked as a list of one. -/
theorem one_at (i : Nat) (o : Oper) (fuel : Nat) {F : Nat} {l : Array Bool} {a : Act} {w : World} (hF : F = fuel + 1) (ho : ops[i]? = some o) (hr : Region.ready .any ops l = [i])
    (h : wpList P ops (ThenGo Q (fun a' w' => S w' ∧ wpAnyH P .any ops (NoPanic Q) S fuel (upTo [i] l) a' w')) [o] a w) : wpAnyH P .any ops (NoPanic Q) S F l a w := by
  subst hF
  refine wpAnyH_all hr (by simp) (fun j hj => ?_)
  simp only [List.mem_singleton] at hj
  subst hj
  unfold wpOp
  simp only [ho]
  simp only [wpList] at h
  split at h
  · rename_i hw
    rw [if_pos hw]
    rcases h with h | ⟨h1, h2⟩
    · left
      unfold Oper.wp at h ⊢
      revert h
      generalize (execOp a.eval o).run P w = r
      intro h
      unfold Oper.upon at h ⊢
      split at h
      · exact h
      · exact h
      · exact h
      · refine Calls.mono h fun e w' he => ?_
        cases e <;> exact he
      · exact h
      · exact h
      · exact h
    · exact Or.inr ⟨h1, h2⟩
  · rename_i hw
    rw [if_neg hw]
    exact h

theorem ona (i : Nat) {o : Oper} (fuel : Nat) {F : Nat} {l : Array Bool} {a : Act} {w : World} (ho : ops[i]? = some o) (h2 : (F, Region.ready .any ops l) = (fuel + 1, [i]))
    (h : wpList P ops (ThenGo Q (fun a' w' => S w' ∧ wpAnyH P .any ops (NoPanic Q) S fuel (upTo [i] l) a' w')) [o] a w) : wpAnyH P .any ops (NoPanic Q) S F l a w := by
  simp only [Prod.mk.injEq] at h2
  exact one_at i o fuel h2.1 ho h2.2 h

/-- All have come up. -/
theorem text_end {F : Nat} {l : Array Bool} {a : Act} {w : World} (hr : Region.ready .any ops l = []) (h : Q .normal a w) : wpAnyH P .any ops (NoPanic Q) S F l a w := wpAnyH_done hr (NoPanic.normal h) F

/-- The beginning. -/
theorem text_begin {id : Nat} {a : Act} {w : World} (hm : P.follows .mixedOrders = true)
    (h : wpAnyH P .any ops (NoPanic Q) S ops.size (Array.replicate ops.size false) a w.drew) : (Code.region id ops true).wp P Q a w :=
  wp_region_noPanic (wp_region_held hm h)

theorem noPanic_put : ∀ c a d v w, NoPanic Q (.panic c) (Act.put a d v) w → NoPanic Q (.panic c) a w := fun _ _ _ _ _ h => h

end

end Go.Proofs.YtkklhbofeghnbaaDoor

namespace Go.Proofs.YtkklhbofeghnbaaDoor
open Go.RowKit
open Go.BigFrame
set_option linter.unusedVariables false
set_option linter.unusedSimpArgs false

set_option maxHeartbeats 1000000 in
theorem eqAct_true (k y v : Int) (w : World) :
    Calls Tryd.prog 58 #[.agg #[.int .i64 k, .int .i64 y, .int .i64 v], .agg #[.int .i64 k, .int .i64 y, .int .i64 v]] w fun e w' => e = .returned (.bool true) ∧ Below w.heap.size w w' := by
  have h0 : (k != k) = false := by simp
  have h1 : (y != y) = false := by simp
  have h2 : (v != v) = false := by simp
  go_enter Tryd.func58, Tryd.ntmps58
  go_wp2
  go_ret
  exact ⟨rfl, by go_grown⟩

theorem lat_cell {w : World} {a : Addr} {v : Value} (h : w.cell? a = some v) : ∀ u : Lat w, u.val.cell? a = some v := fun u => by
  rw [u.isBelow.cell (World.block_lt_of_cell? w a h)]; exact h

set_option maxHeartbeats 2000000 in
theorem eqActS_true (a a' : Option Addr) (cap cap' : Nat) (zs : List ActD) (w : World) (h : ActRow w a zs) (h' : ActRow w a' zs) (hl : zs.length ≤ 1099511627776) :
    Calls Tryd.prog 55 #[.slice a zs.length cap, .slice a' zs.length cap'] w fun e w' => e = .returned (.bool true) ∧ Below w.heap.size w w' := by
  go_enter Tryd.func55, Tryd.ntmps55
  go_wp2
  go_loopw [5] (fun i wr => ∃ k : Nat, k ≤ zs.length ∧ i = .int .i64 k ∧ Below w.heap.size w wr) (fun i _ => zs.length - (intOf i).toNat)
  case atStart => exact ⟨0, Nat.zero_le _, rfl, Below.refl _ _⟩
  case round =>
    obtain ⟨k, hk, rfl, hb⟩ := hrel
    by_cases hlt : k < zs.length
    · obtain ⟨b, off, rfl, hbs, hc0, hc1, hc2⟩ := (h.below hb).at k hlt
      obtain ⟨b', off', rfl, hbs', hd0, hd1, hd2⟩ := (h'.below hb).at k hlt
      generalize zs.getD k actNo = z at hc0 hc1 hc2 hd0 hd1 hd2
      obtain ⟨z0, z1, z2⟩ := z
      have k0 := lat_cell hc0
      have k1 := lat_cell hc1
      have k2 := lat_cell hc2
      have l0 := lat_cell hd0
      have l1 := lat_cell hd1
      have l2 := lat_cell hd2
      clear hc0 hc1 hc2 hd0 hd1 hd2
      have hW : Below wr.heap.size wr wr.drew := (Below.refl _ _).drew
      have hne : Nonempty (Lat wr) := ⟨⟨wr, Below.refl _ _⟩⟩
      go_wp2_with fail
      refine text_begin (S := fun w' => ∃ u : Lat wr, w' = u.val) (by kernel_rfl) ?_
      refine sgr [(0, 8)] 2 (by kernel_rfl) ⟨⟨_, hW⟩, rfl⟩ ?_
      simp only [pkE]
      repeat go_big_quiet_step (fail)
      refine wpQuiet_nil ?_
      refine cla 8 (some 25) 58 #[.agg #[.int .i64 z0, .int .i64 z1, .int .i64 z2], .agg #[.int .i64 z0, .int .i64 z1, .int .i64 z2]] 1 (by kernel_rfl) ?_
      refine (eqAct_true _ _ _ _).mono ?_
      rintro e w2 ⟨rfl, hb2⟩
      replace hW := hW.trans (hb2.mono hW.size)
      clear hb2
      refine ⟨_, rfl, ⟨⟨_, hW⟩, rfl⟩, ?_⟩
      simp only [Act.put, pjE]
      refine sgr [(9, 1)] 0 (by kernel_rfl) ⟨⟨_, hW⟩, rfl⟩ ?_
      simp only [pkE]
      repeat go_big_quiet_step (fail)
      refine wpQuiet_nil ?_
      refine text_end (by kernel_rfl) ?_
      replace hb := hb.trans (hW.mono hb.size)
      clear k0 k1 k2 l0 l1 l2 hW hne
      go_wp2
      go_roundw
      case rel => exact ⟨k + 1, by omega, by go_num, hb⟩
      case measure => simp [intOf]; omega
    · go_wp2
      go_ret
      exact ⟨rfl, hb⟩

theorem grown3 {w wr : World} {g k : Nat} {v0 v1 v2 : Value} (h : w.grownBy wr (some g)) : w.grownBy (((wr.setCell ⟨g, k, none⟩ v0).setCell ⟨g, k + 1, none⟩ v1).setCell ⟨g, k + 2, none⟩ v2) (some g) := by
  have one : ∀ (u : World) (j : Nat) (v : Value), w.grownBy u (some g) → w.grownBy (u.setCell ⟨g, j, none⟩ v) (some g) := fun u j v h =>
    ⟨h.os, h.tape, h.output, by simpa [World.setCell] using h.size, fun i hi hne => by rw [Below.heap_setCell _ _ _ _ (by intro e; apply hne; simp [e])]; exact h.block i hi hne⟩
  exact one _ _ _ (one _ _ _ (one _ _ _ h))

/-- Marks, three cells an act. -/
def actMarks (c : Int) (n : Nat) : List ActD := (List.range n).map fun (i : Nat) => ⟨c + ((i * 3 : Nat) : Int), c + ((i * 3 + 1 : Nat) : Int), c + ((i * 3 + 2 : Nat) : Int)⟩
theorem actMarks_length (c : Int) (n : Nat) : (actMarks c n).length = n := by simp [actMarks]
theorem actMarks_getD (c : Int) (n i : Nat) (h : i < n) : (actMarks c n).getD i actNo = ⟨c + ((i * 3 : Nat) : Int), c + ((i * 3 + 1 : Nat) : Int), c + ((i * 3 + 2 : Nat) : Int)⟩ := by simp [actMarks, List.getD, h]

set_option maxHeartbeats 2000000 in
theorem markActS_any (base : Nat) (v : Value) (n : Nat) (xs : List Value) (c : Int) (w : World) (h : w.ownsRow base 97 3 v n xs) (hn : n ≤ 1099511627776) (h0 : 0 ≤ c) (h1 : c ≤ 1099511627776) :
    Calls Tryd.prog 46 #[v, .int .i64 c] w fun e w' => e = .returned (.int .i64 (c + ((n * 3 : Nat) : Int))) ∧ w'.ownsRow base 97 3 v n (actCells (actMarks c n)) ∧ w.grownBy w' v.ownBlock := by
  rcases h.2 with ⟨rfl, rfl⟩ | ⟨g, cap, cur, rfl, hb, hg, r⟩
  · go_enter Tryd.func46, Tryd.ntmps46
    go_wp2
    refine wp_loop_rounds 1 ?_
    rw [rounds_succ]
    go_wp2
    go_ret
    exact ⟨by simp, World.ownsRow_nil _ _ _ _, World.grownBy.refl _ _⟩
  · clear hg r
    have hml := actCells_length (actMarks c n)
    rw [actMarks_length] at hml
    have hxl : xs.length = (actCells (actMarks c n)).length := by rw [hml]; exact h.1
    rw [← layV_zero (actCells (actMarks c n)) xs] at h
    go_enter Tryd.func46, Tryd.ntmps46
    go_wp2
    go_loopw [1, 5] (fun j i wr => ∃ k : Nat, k ≤ n ∧ j = .int .i64 (c + ((k * 3 : Nat) : Int)) ∧ i = .int .i64 k ∧ wr.ownsRow base 97 3 (.slice (some ⟨g, 0, none⟩) n cap) n (layV (actCells (actMarks c n)) xs (k * 3)) ∧ w.grownBy wr (some g)) (fun _ i _ => n - (intOf i).toNat)
    case atStart => exact ⟨0, Nat.zero_le _, by simp, rfl, by simpa using h, World.grownBy.refl _ _⟩
    case round =>
      obtain ⟨k, hk, rfl, rfl, ho, hgr⟩ := hrel
      by_cases hlt : k < n
      · obtain ⟨g0, g1, g2⟩ := actCells_get (actMarks c n) k (by rw [actMarks_length]; exact hlt)
        rw [actMarks_getD _ _ _ hlt] at g0 g1 g2
        obtain ⟨hst, ⟨f0, f1, f2⟩, ⟨⟨u0, e0⟩, ⟨u1, e1⟩, ⟨u2, e2⟩⟩, _⟩ := lay3 ho hxl hml hlt g0 g1 g2
        have hgr2 := grown3 hgr (g := g) (k := k * 3) (v0 := .int .i64 (c + ((k * 3 : Nat) : Int))) (v1 := .int .i64 (c + ((k * 3 + 1 : Nat) : Int))) (v2 := .int .i64 (c + ((k * 3 + 2 : Nat) : Int)))
        have R : Hid (_ ∧ _) := ⟨hst, hgr2⟩
        have e01 : c + ((k * 3 + 1 : Nat) : Int) = c + ((k * 3 : Nat) : Int) + 1 := by omega
        have e02 : c + ((k * 3 + 2 : Nat) : Int) = c + ((k * 3 : Nat) : Int) + 1 + 1 := by omega
        have e03 : Hid (c + (((k + 1) * 3 : Nat) : Int) = c + ((k * 3 : Nat) : Int) + 1 + 1 + 1) := show _ = _ by omega
        rw [e01, e02] at R
        clear hst hgr2 g0 g1 g2 ho hgr e01 e02
        generalize hy : ((k * 3 : Nat) : Int) = y at R e03
        have hy1 : y ≤ 3298534883328 := by omega
        have hy0 : 0 ≤ y := by omega
        clear hy
        go_wp2
        go_roundw
        case rel => exact ⟨k + 1, by omega, by rw [e03.out], by go_num, R.out.1, R.out.2⟩
        case measure => simp [intOf]; omega
      · go_wp2
        go_ret
        have hkl : k = n := by omega
        subst hkl
        rw [layV_all _ _ _ hxl hml] at ho
        exact ⟨rfl, ho, hgr⟩

set_option maxHeartbeats 2000000 in
theorem heldActS_true (a : Option Addr) (n cap : Nat) (c : Int) (w : World) (h : ActRow w a (actMarks c n)) (hn : n ≤ 1099511627776) (h0 : 0 ≤ c) (h1 : c ≤ 1099511627776) :
    Calls Tryd.prog 48 #[.slice a n cap, .int .i64 c] w fun e w' => e = .returned (.int .i64 (c + ((n * 3 : Nat) : Int))) ∧ w' = w := by
  go_enter Tryd.func48, Tryd.ntmps48
  go_wp2
  go_loop [1, 5] (fun j i => ∃ k : Nat, k ≤ n ∧ j = .int .i64 (c + ((k * 3 : Nat) : Int)) ∧ i = .int .i64 k) (fun _ i => n - (intOf i).toNat)
  case atStart => exact ⟨0, Nat.zero_le _, by simp, rfl⟩
  case round =>
    obtain ⟨k, hk, rfl, rfl⟩ := hrel
    by_cases hlt : k < n
    · obtain ⟨b, off, rfl, hbs, hc0, hc1, hc2⟩ := h.at k (by rw [actMarks_length]; exact hlt)
      rw [actMarks_getD _ _ _ hlt] at hc0 hc1 hc2
      have e01 : c + ((k * 3 + 1 : Nat) : Int) = c + ((k * 3 : Nat) : Int) + 1 := by omega
      have e02 : c + ((k * 3 + 2 : Nat) : Int) = c + ((k * 3 : Nat) : Int) + 1 + 1 := by omega
      have e03 : Hid (c + (((k + 1) * 3 : Nat) : Int) = c + ((k * 3 : Nat) : Int) + 1 + 1 + 1) := show _ = _ by omega
      dsimp only at hc0 hc1 hc2
      rw [e01] at hc1
      rw [e02] at hc2
      clear e01 e02
      generalize hy : ((k * 3 : Nat) : Int) = y at hc0 hc1 hc2 e03
      have hy1 : y ≤ 3298534883328 := by omega
      have hy0 : 0 ≤ y := by omega
      clear hy
      go_wp2
      go_round
      case rel => exact ⟨k + 1, by omega, by rw [e03.out], by go_num⟩
      case measure => simp [intOf]; omega
    · go_wp2
      go_ret
      have hkl : k = n := by omega
      subst hkl
      exact ⟨rfl, rfl⟩

end Go.Proofs.YtkklhbofeghnbaaDoor

namespace Go.Proofs.YtkklhbofeghnbaaDoor
open Go.RowKit
set_option linter.unusedVariables false
set_option linter.unusedSimpArgs false

theorem below_from {w W w' : World} (h : Below w.heap.size w W) (hb : Below W.heap.size W w') : Below w.heap.size w w' := h.trans (hb.mono h.size)

theorem grown_from {w W w' : World} {r : Option Nat} (h : Below w.heap.size w W) (hg : W.grownBy w' r) : w.grownBy w' r :=
  ⟨hg.os.trans h.os, hg.tape.trans h.tape, hg.output.trans h.output, Nat.le_trans h.size hg.size, fun i hi hne => (hg.block i (Nat.lt_of_lt_of_le hi h.size) hne).trans (h.block i hi)⟩

set_option maxHeartbeats 1000000 in
theorem eqTxn_true (i s q : Int) (a a' : Option Addr) (cap cap' : Nat) (zs : List ActD) (w : World) (h : ActRow w a zs) (h' : ActRow w a' zs) (hl : zs.length ≤ 1099511627776) :
    Calls Tryd.prog 51 #[.agg #[.int .i64 i, .int .i64 s, .int .i64 q, .slice a zs.length cap], .agg #[.int .i64 i, .int .i64 s, .int .i64 q, .slice a' zs.length cap']] w fun e w' => e = .returned (.bool true) ∧ Below w.heap.size w w' := by
  have h0 : (i != i) = false := by simp
  have h1 : (s != s) = false := by simp
  have h2 : (q != q) = false := by simp
  go_enter Tryd.func51, Tryd.ntmps51
  go_wp2_with (go_at_call 55; refine (eqActS_true a a' cap cap' zs _ (h.below (by go_grown)) (h'.below (by go_grown)) hl).mono ?_; rintro e w' ⟨rfl, hb⟩)
  go_ret
  exact ⟨rfl, below_from (by go_grown) hb⟩

end Go.Proofs.YtkklhbofeghnbaaDoor

namespace Go.Proofs.YtkklhbofeghnbaaDoor
open Go.RowKit
set_option linter.unusedVariables false
set_option linter.unusedSimpArgs false

def inW (n lo hi : Int) : Bool := decide (lo ≤ n) && decide (n ≤ hi)

def actF (x : ActD) : Int :=
  if (inW x.kind 1 4 = false) ∨ ((x.kind == 3) = true ∧ (x.val != 0) = true) then 1
  else if inW x.key 1 20 = false ∨ inW x.val (-1000) 1000 = false then 3 else 0

def actsF : List ActD → Int
  | [] => 0
  | x :: r => if actF x = 0 then actsF r else actF x

def txnF (i s q : Int) (zs : List ActD) : Int :=
  if inW i 1 200 = false ∨ inW s 1 9 = false ∨ inW q 1 99 = false then 3
  else if zs.length < 1 ∨ 4 < zs.length then 2 else actsF zs

theorem actsF_first (zs : List ActD) : ∀ k, (∀ j, j < k → actF (zs.getD j actNo) = 0) → k < zs.length → actF (zs.getD k actNo) ≠ 0 → actsF zs = actF (zs.getD k actNo) := by
  induction zs with
  | nil => intro k _ h; simp at h
  | cons x r ih =>
    intro k h0 hk hne
    cases k with
    | zero => simp [List.getD] at hne ⊢; simp [actsF, hne]
    | succ k =>
      have hx : actF x = 0 := by simpa [List.getD] using h0 0 (by omega)
      have := ih k (fun j hj => by simpa [List.getD] using h0 (j + 1) (by omega)) (by simpa using hk) (by simpa [List.getD] using hne)
      simp only [actsF, hx, if_true]
      rw [this]
      simp [List.getD]

theorem actsF_none (zs : List ActD) (h : ∀ j, j < zs.length → actF (zs.getD j actNo) = 0) : actsF zs = 0 := by
  induction zs with
  | nil => rfl
  | cons x r ih =>
    have hx : actF x = 0 := by simpa [List.getD] using h 0 (by simp)
    simp only [actsF, hx, if_true]
    exact ih (fun j hj => by simpa [List.getD] using h (j + 1) (by simpa using hj))

/-- The ways through an act's tests. -/
theorem actF_ways (k y v : Int) :
    (inW k 1 4 = false ∧ actF ⟨k, y, v⟩ = 1) ∨ (inW k 1 4 = true ∧ (k == 3) = true ∧ (v != 0) = true ∧ actF ⟨k, y, v⟩ = 1) ∨
    (inW k 1 4 = true ∧ (((k == 3) = true ∧ (v != 0) = false) ∨ (k == 3) = false) ∧
      ((inW y 1 20 = false ∧ actF ⟨k, y, v⟩ = 3) ∨ (inW y 1 20 = true ∧ inW v (-1000) 1000 = false ∧ actF ⟨k, y, v⟩ = 3) ∨ (inW y 1 20 = true ∧ inW v (-1000) 1000 = true ∧ actF ⟨k, y, v⟩ = 0))) := by
  unfold actF
  cases h1 : inW k 1 4 <;> cases h2 : (k == 3) <;> cases h3 : (v != 0) <;> cases h4 : inW y 1 20 <;> cases h5 : inW v (-1000) 1000 <;> simp [h1, h2, h3, h4, h5]

end Go.Proofs.YtkklhbofeghnbaaDoor

namespace Go.Proofs.YtkklhbofeghnbaaDoor
open Go.RowKit
set_option linter.unusedVariables false
set_option linter.unusedSimpArgs false

/-- The ways through a transaction's first tests. -/
theorem txnF_ways (i s q : Int) (zs : List ActD) :
    (inW i 1 200 = false ∧ txnF i s q zs = 3) ∨ (inW i 1 200 = true ∧ inW s 1 9 = false ∧ txnF i s q zs = 3) ∨ (inW i 1 200 = true ∧ inW s 1 9 = true ∧ inW q 1 99 = false ∧ txnF i s q zs = 3) ∨
    (inW i 1 200 = true ∧ inW s 1 9 = true ∧ inW q 1 99 = true ∧ ((zs.length < 1 ∧ txnF i s q zs = 2) ∨ (4 < zs.length ∧ txnF i s q zs = 2) ∨ (¬ zs.length < 1 ∧ ¬ 4 < zs.length ∧ txnF i s q zs = actsF zs))) := by
  unfold txnF
  cases h1 : inW i 1 200 <;> cases h2 : inW s 1 9 <;> cases h3 : inW q 1 99 <;> simp only [Bool.false_eq_true, Bool.true_eq_false, reduceCtorEq, if_true, if_false, false_or, or_false, true_or, or_true, false_and, true_and, and_true, and_false]
  by_cases h4 : zs.length < 1 <;> by_cases h5 : 4 < zs.length <;> simp only [h4, h5, if_true, if_false, or_true, true_or, or_false, false_or, not_true_eq_false, not_false_eq_true, false_and, true_and, and_self]

/-- A transaction in a box of four cells. -/
structure Box4 (w : World) (b o : Nat) (x0 x1 x2 x3 : Value) : Prop where
  c0 : w.cell? ⟨b, o, none⟩ = some x0
  c1 : w.cell? ⟨b, o + 1, none⟩ = some x1
  c2 : w.cell? ⟨b, o + 2, none⟩ = some x2
  c3 : w.cell? ⟨b, o + 3, none⟩ = some x3

theorem Box4.below {w w' : World} {b o : Nat} {x0 x1 x2 x3 : Value} (h : Box4 w b o x0 x1 x2 x3) (hb : Below w.heap.size w w') : Box4 w' b o x0 x1 x2 x3 := by
  have hlt : b < w.heap.size := World.block_lt_of_cell? w ⟨b, o, none⟩ h.c0
  exact ⟨by rw [hb.cell (p := ⟨b, o, none⟩) hlt]; exact h.c0, by rw [hb.cell (p := ⟨b, o + 1, none⟩) hlt]; exact h.c1, by rw [hb.cell (p := ⟨b, o + 2, none⟩) hlt]; exact h.c2, by rw [hb.cell (p := ⟨b, o + 3, none⟩) hlt]; exact h.c3⟩

theorem box4_new (w : World) (x0 x1 x2 x3 : Value) (t : TypeId) : Box4 (w.alloc (.cells #[x0, x1, x2, x3] t)) w.heap.size 0 x0 x1 x2 x3 := ⟨by simp, by simp, by simp, by simp⟩

theorem Box4.zero {w : World} {b : Nat} {x0 x1 x2 x3 : Value} (h : Box4 w b 0 x0 x1 x2 x3) : w.cell? ⟨b, 0, none⟩ = some x0 ∧ w.cell? ⟨b, 1, none⟩ = some x1 ∧ w.cell? ⟨b, 2, none⟩ = some x2 ∧ w.cell? ⟨b, 3, none⟩ = some x3 :=
  ⟨h.c0, by simpa using h.c1, by simpa using h.c2, by simpa using h.c3⟩

theorem Box4.lat {w : World} {b : Nat} {x0 x1 x2 x3 : Value} (h : Box4 w b 0 x0 x1 x2 x3) : (∀ u : Lat w, u.val.cell? ⟨b, 0, none⟩ = some x0) ∧ (∀ u : Lat w, u.val.cell? ⟨b, 1, none⟩ = some x1) ∧ (∀ u : Lat w, u.val.cell? ⟨b, 2, none⟩ = some x2) ∧ (∀ u : Lat w, u.val.cell? ⟨b, 3, none⟩ = some x3) :=
  ⟨lat_cell h.zero.1, lat_cell h.zero.2.1, lat_cell h.zero.2.2.1, lat_cell h.zero.2.2.2⟩

end Go.Proofs.YtkklhbofeghnbaaDoor

namespace Go.Proofs.YtkklhbofeghnbaaDoor
open Go.RowKit
set_option linter.unusedVariables false
set_option linter.unusedSimpArgs false

/-- Block b holds just these cells. -/
def Blk (w : World) (b : Nat) (t : TypeId) (cs : Array Value) : Prop := w.heap[b]? = some (.cells cs t (0, 0))

theorem Blk.lt {w : World} {b : Nat} {t : TypeId} {cs : Array Value} (h : Blk w b t cs) : b < w.heap.size := (Array.getElem?_eq_some_iff.1 h).1
theorem Blk.new (w : World) (t : TypeId) (cs : Array Value) : Blk (w.alloc (.cells cs t)) w.heap.size t cs := by
  show (w.heap.push _)[w.heap.size]? = _
  simp
theorem Blk.below {w w' : World} {b : Nat} {t : TypeId} {cs : Array Value} (h : Blk w b t cs) (hb : Below w.heap.size w w') : Blk w' b t cs := (hb.block b h.lt).trans h
theorem Blk.grown {w w' : World} {b : Nat} {t : TypeId} {cs : Array Value} {row : Option Nat} (h : Blk w b t cs) (hg : w.grownBy w' row) (hne : some b ≠ row) : Blk w' b t cs := (hg.block b h.lt hne).trans h
theorem Blk.cell {w : World} {b : Nat} {t : TypeId} {cs : Array Value} (h : Blk w b t cs) (j : Nat) (x : Value) (hx : cs[j]? = some x) : w.cell? ⟨b, j, none⟩ = some x := by
  unfold Blk at h
  simp [World.cell?, h, hx]
theorem Blk.frozen {w : World} {b : Nat} {t : TypeId} {cs : Array Value} (h : Blk w b t cs) (j : Nat) : w.frozen? ⟨b, j, none⟩ = false := by
  unfold Blk at h
  simp [World.frozen?, h]
theorem Blk.lat {w : World} {b : Nat} {t : TypeId} {cs : Array Value} (h : Blk w b t cs) (j : Nat) (x : Value) (hx : cs[j]? = some x) : ∀ u : Lat w, u.val.cell? ⟨b, j, none⟩ = some x := lat_cell (h.cell j x hx)

/-- Only blocks from lo up to hi have turned, of those that were there. -/
structure Only (lo hi : Nat) (w w' : World) : Prop where
  os : w'.os = w.os
  tape : w'.tape = w.tape
  output : w'.output = w.output
  size : w.heap.size ≤ w'.heap.size
  block : ∀ k, k < w.heap.size → (k < lo ∨ hi ≤ k) → w'.heap[k]? = w.heap[k]?

theorem only_of_grown {w w' : World} {row : Option Nat} {lo hi : Nat} (hg : w.grownBy w' row) (h : ∀ g, row = some g → lo ≤ g ∧ g < hi) : Only lo hi w w' :=
  ⟨hg.os, hg.tape, hg.output, hg.size, fun k hk hc => hg.block k hk (fun e => by have := h k e.symm; omega)⟩

theorem Only.refl (lo hi : Nat) (w : World) : Only lo hi w w := ⟨rfl, rfl, rfl, Nat.le_refl _, fun _ _ _ => rfl⟩
theorem Only.trans {lo hi : Nat} {a b c : World} (h : Only lo hi a b) (k : Only lo hi b c) : Only lo hi a c :=
  ⟨k.os.trans h.os, k.tape.trans h.tape, k.output.trans h.output, Nat.le_trans h.size k.size, fun i hi hc => (k.block i (Nat.lt_of_lt_of_le hi h.size) hc).trans (h.block i hi hc)⟩
theorem Only.of_below {lo hi : Nat} {w w' : World} (h : Below w.heap.size w w') : Only lo hi w w' := ⟨h.os, h.tape, h.output, h.size, fun k hk _ => h.block k hk⟩
theorem below_only {B lo hi : Nat} {a w w' : World} (h : Below B a w) (ho : Only lo hi w w') (hB : B ≤ lo) (hs : B ≤ w.heap.size) : Below B a w' :=
  ⟨ho.os.trans h.os, ho.tape.trans h.tape, ho.output.trans h.output, Nat.le_trans h.size ho.size, fun k hk => (ho.block k (by omega) (Or.inl (by omega))).trans (h.block k hk)⟩
theorem own_only {w w' : World} {lo hi base e size n : Nat} {v : Value} {xs : List Value} (h : w.ownsRow base e size v n xs) (ho : Only lo hi w w') (hb : hi ≤ base) : w'.ownsRow base e size v n xs := by
  refine ⟨h.1, ?_⟩
  rcases h.2 with h2 | ⟨g, cap, cur, hv, hg, hh, r⟩
  · exact Or.inl h2
  · exact Or.inr ⟨g, cap, cur, hv, hg, by rw [ho.block g (Array.getElem?_eq_some_iff.1 hh).1 (Or.inr (by omega))]; exact hh, r⟩
theorem blk_only {w w' : World} {lo hi b : Nat} {t : TypeId} {cs : Array Value} (h : Blk w b t cs) (ho : Only lo hi w w') (hb : hi ≤ b) : Blk w' b t cs := (ho.block b h.lt (Or.inr hb)).trans h

theorem own_apart3 {w w' : World} {base base' e e' n n' s s' : Nat} {v v' : Value} {xs xs' : List Value} (h : w.ownsRow base e s v n xs) (h' : w'.ownsRow base' e' s' v' n' xs') (hb : w.heap.size ≤ base') : v.ownBlock = none ∨ v.ownBlock ≠ v'.ownBlock := by
  cases hv : v.ownBlock with
  | none => exact Or.inl rfl
  | some g =>
    right
    intro e
    have h1 := (h.lt g hv).2
    have h2 := (h'.lt g e.symm).1
    omega

theorem own_apart3' {w w' : World} {base base' e e' n n' s s' : Nat} {v v' : Value} {xs xs' : List Value} (h : w.ownsRow base e s v n xs) (h' : w'.ownsRow base' e' s' v' n' xs') (hb : w.heap.size ≤ base') : v'.ownBlock = none ∨ v'.ownBlock ≠ v.ownBlock := by
  rcases own_apart3 h h' hb with e | e
  · cases hv : v'.ownBlock with
    | none => exact Or.inl rfl
    | some g => right; rw [e]; simp
  · exact Or.inr (fun k => e k.symm)

theorem own_not3 {w : World} {base e n b s : Nat} {v : Value} {xs : List Value} (h : w.ownsRow base e s v n xs) (hb : b < base ∨ w.heap.size ≤ b) : some b ≠ v.ownBlock := by
  intro e
  have h1 := h.lt b e.symm
  omega

theorem Blk.cel2 {w : World} {b : Nat} {t : TypeId} {x0 x1 : Value} {r : List Value} (h : Blk w b t (x0 :: x1 :: r).toArray) : w.cell? ⟨b, 0, none⟩ = some x0 ∧ w.cell? ⟨b, 1, none⟩ = some x1 :=
  ⟨h.cell 0 _ rfl, h.cell 1 _ rfl⟩

theorem Blk.lts2 {w : World} {b : Nat} {t : TypeId} {x0 x1 : Value} {r : List Value} (h : Blk w b t (x0 :: x1 :: r).toArray) : (∀ u : Lat w, u.val.cell? ⟨b, 0, none⟩ = some x0) ∧ (∀ u : Lat w, u.val.cell? ⟨b, 1, none⟩ = some x1) :=
  ⟨h.lat 0 _ rfl, h.lat 1 _ rfl⟩

theorem Blk.frz2 {w : World} {b : Nat} {t : TypeId} {cs : Array Value} (h : Blk w b t cs) : w.frozen? ⟨b, 0, none⟩ = false ∧ w.frozen? ⟨b, 1, none⟩ = false :=
  ⟨h.frozen 0, h.frozen 1⟩

theorem Blk.cel3 {w : World} {b : Nat} {t : TypeId} {x0 x1 x2 : Value} {r : List Value} (h : Blk w b t (x0 :: x1 :: x2 :: r).toArray) : w.cell? ⟨b, 0, none⟩ = some x0 ∧ w.cell? ⟨b, 1, none⟩ = some x1 ∧ w.cell? ⟨b, 2, none⟩ = some x2 :=
  ⟨h.cell 0 _ rfl, h.cell 1 _ rfl, h.cell 2 _ rfl⟩

theorem Blk.lts3 {w : World} {b : Nat} {t : TypeId} {x0 x1 x2 : Value} {r : List Value} (h : Blk w b t (x0 :: x1 :: x2 :: r).toArray) : (∀ u : Lat w, u.val.cell? ⟨b, 0, none⟩ = some x0) ∧ (∀ u : Lat w, u.val.cell? ⟨b, 1, none⟩ = some x1) ∧ (∀ u : Lat w, u.val.cell? ⟨b, 2, none⟩ = some x2) :=
  ⟨h.lat 0 _ rfl, h.lat 1 _ rfl, h.lat 2 _ rfl⟩

theorem Blk.frz3 {w : World} {b : Nat} {t : TypeId} {cs : Array Value} (h : Blk w b t cs) : w.frozen? ⟨b, 0, none⟩ = false ∧ w.frozen? ⟨b, 1, none⟩ = false ∧ w.frozen? ⟨b, 2, none⟩ = false :=
  ⟨h.frozen 0, h.frozen 1, h.frozen 2⟩

theorem Blk.cel4 {w : World} {b : Nat} {t : TypeId} {x0 x1 x2 x3 : Value} {r : List Value} (h : Blk w b t (x0 :: x1 :: x2 :: x3 :: r).toArray) : w.cell? ⟨b, 0, none⟩ = some x0 ∧ w.cell? ⟨b, 1, none⟩ = some x1 ∧ w.cell? ⟨b, 2, none⟩ = some x2 ∧ w.cell? ⟨b, 3, none⟩ = some x3 :=
  ⟨h.cell 0 _ rfl, h.cell 1 _ rfl, h.cell 2 _ rfl, h.cell 3 _ rfl⟩

theorem Blk.lts4 {w : World} {b : Nat} {t : TypeId} {x0 x1 x2 x3 : Value} {r : List Value} (h : Blk w b t (x0 :: x1 :: x2 :: x3 :: r).toArray) : (∀ u : Lat w, u.val.cell? ⟨b, 0, none⟩ = some x0) ∧ (∀ u : Lat w, u.val.cell? ⟨b, 1, none⟩ = some x1) ∧ (∀ u : Lat w, u.val.cell? ⟨b, 2, none⟩ = some x2) ∧ (∀ u : Lat w, u.val.cell? ⟨b, 3, none⟩ = some x3) :=
  ⟨h.lat 0 _ rfl, h.lat 1 _ rfl, h.lat 2 _ rfl, h.lat 3 _ rfl⟩

theorem Blk.frz4 {w : World} {b : Nat} {t : TypeId} {cs : Array Value} (h : Blk w b t cs) : w.frozen? ⟨b, 0, none⟩ = false ∧ w.frozen? ⟨b, 1, none⟩ = false ∧ w.frozen? ⟨b, 2, none⟩ = false ∧ w.frozen? ⟨b, 3, none⟩ = false :=
  ⟨h.frozen 0, h.frozen 1, h.frozen 2, h.frozen 3⟩

theorem Blk.cel5 {w : World} {b : Nat} {t : TypeId} {x0 x1 x2 x3 x4 : Value} {r : List Value} (h : Blk w b t (x0 :: x1 :: x2 :: x3 :: x4 :: r).toArray) : w.cell? ⟨b, 0, none⟩ = some x0 ∧ w.cell? ⟨b, 1, none⟩ = some x1 ∧ w.cell? ⟨b, 2, none⟩ = some x2 ∧ w.cell? ⟨b, 3, none⟩ = some x3 ∧ w.cell? ⟨b, 4, none⟩ = some x4 :=
  ⟨h.cell 0 _ rfl, h.cell 1 _ rfl, h.cell 2 _ rfl, h.cell 3 _ rfl, h.cell 4 _ rfl⟩

theorem Blk.lts5 {w : World} {b : Nat} {t : TypeId} {x0 x1 x2 x3 x4 : Value} {r : List Value} (h : Blk w b t (x0 :: x1 :: x2 :: x3 :: x4 :: r).toArray) : (∀ u : Lat w, u.val.cell? ⟨b, 0, none⟩ = some x0) ∧ (∀ u : Lat w, u.val.cell? ⟨b, 1, none⟩ = some x1) ∧ (∀ u : Lat w, u.val.cell? ⟨b, 2, none⟩ = some x2) ∧ (∀ u : Lat w, u.val.cell? ⟨b, 3, none⟩ = some x3) ∧ (∀ u : Lat w, u.val.cell? ⟨b, 4, none⟩ = some x4) :=
  ⟨h.lat 0 _ rfl, h.lat 1 _ rfl, h.lat 2 _ rfl, h.lat 3 _ rfl, h.lat 4 _ rfl⟩

theorem Blk.frz5 {w : World} {b : Nat} {t : TypeId} {cs : Array Value} (h : Blk w b t cs) : w.frozen? ⟨b, 0, none⟩ = false ∧ w.frozen? ⟨b, 1, none⟩ = false ∧ w.frozen? ⟨b, 2, none⟩ = false ∧ w.frozen? ⟨b, 3, none⟩ = false ∧ w.frozen? ⟨b, 4, none⟩ = false :=
  ⟨h.frozen 0, h.frozen 1, h.frozen 2, h.frozen 3, h.frozen 4⟩

theorem Blk.cel6 {w : World} {b : Nat} {t : TypeId} {x0 x1 x2 x3 x4 x5 : Value} {r : List Value} (h : Blk w b t (x0 :: x1 :: x2 :: x3 :: x4 :: x5 :: r).toArray) : w.cell? ⟨b, 0, none⟩ = some x0 ∧ w.cell? ⟨b, 1, none⟩ = some x1 ∧ w.cell? ⟨b, 2, none⟩ = some x2 ∧ w.cell? ⟨b, 3, none⟩ = some x3 ∧ w.cell? ⟨b, 4, none⟩ = some x4 ∧ w.cell? ⟨b, 5, none⟩ = some x5 :=
  ⟨h.cell 0 _ rfl, h.cell 1 _ rfl, h.cell 2 _ rfl, h.cell 3 _ rfl, h.cell 4 _ rfl, h.cell 5 _ rfl⟩

theorem Blk.lts6 {w : World} {b : Nat} {t : TypeId} {x0 x1 x2 x3 x4 x5 : Value} {r : List Value} (h : Blk w b t (x0 :: x1 :: x2 :: x3 :: x4 :: x5 :: r).toArray) : (∀ u : Lat w, u.val.cell? ⟨b, 0, none⟩ = some x0) ∧ (∀ u : Lat w, u.val.cell? ⟨b, 1, none⟩ = some x1) ∧ (∀ u : Lat w, u.val.cell? ⟨b, 2, none⟩ = some x2) ∧ (∀ u : Lat w, u.val.cell? ⟨b, 3, none⟩ = some x3) ∧ (∀ u : Lat w, u.val.cell? ⟨b, 4, none⟩ = some x4) ∧ (∀ u : Lat w, u.val.cell? ⟨b, 5, none⟩ = some x5) :=
  ⟨h.lat 0 _ rfl, h.lat 1 _ rfl, h.lat 2 _ rfl, h.lat 3 _ rfl, h.lat 4 _ rfl, h.lat 5 _ rfl⟩

theorem Blk.frz6 {w : World} {b : Nat} {t : TypeId} {cs : Array Value} (h : Blk w b t cs) : w.frozen? ⟨b, 0, none⟩ = false ∧ w.frozen? ⟨b, 1, none⟩ = false ∧ w.frozen? ⟨b, 2, none⟩ = false ∧ w.frozen? ⟨b, 3, none⟩ = false ∧ w.frozen? ⟨b, 4, none⟩ = false ∧ w.frozen? ⟨b, 5, none⟩ = false :=
  ⟨h.frozen 0, h.frozen 1, h.frozen 2, h.frozen 3, h.frozen 4, h.frozen 5⟩

theorem Blk.cel7 {w : World} {b : Nat} {t : TypeId} {x0 x1 x2 x3 x4 x5 x6 : Value} {r : List Value} (h : Blk w b t (x0 :: x1 :: x2 :: x3 :: x4 :: x5 :: x6 :: r).toArray) : w.cell? ⟨b, 0, none⟩ = some x0 ∧ w.cell? ⟨b, 1, none⟩ = some x1 ∧ w.cell? ⟨b, 2, none⟩ = some x2 ∧ w.cell? ⟨b, 3, none⟩ = some x3 ∧ w.cell? ⟨b, 4, none⟩ = some x4 ∧ w.cell? ⟨b, 5, none⟩ = some x5 ∧ w.cell? ⟨b, 6, none⟩ = some x6 :=
  ⟨h.cell 0 _ rfl, h.cell 1 _ rfl, h.cell 2 _ rfl, h.cell 3 _ rfl, h.cell 4 _ rfl, h.cell 5 _ rfl, h.cell 6 _ rfl⟩

theorem Blk.lts7 {w : World} {b : Nat} {t : TypeId} {x0 x1 x2 x3 x4 x5 x6 : Value} {r : List Value} (h : Blk w b t (x0 :: x1 :: x2 :: x3 :: x4 :: x5 :: x6 :: r).toArray) : (∀ u : Lat w, u.val.cell? ⟨b, 0, none⟩ = some x0) ∧ (∀ u : Lat w, u.val.cell? ⟨b, 1, none⟩ = some x1) ∧ (∀ u : Lat w, u.val.cell? ⟨b, 2, none⟩ = some x2) ∧ (∀ u : Lat w, u.val.cell? ⟨b, 3, none⟩ = some x3) ∧ (∀ u : Lat w, u.val.cell? ⟨b, 4, none⟩ = some x4) ∧ (∀ u : Lat w, u.val.cell? ⟨b, 5, none⟩ = some x5) ∧ (∀ u : Lat w, u.val.cell? ⟨b, 6, none⟩ = some x6) :=
  ⟨h.lat 0 _ rfl, h.lat 1 _ rfl, h.lat 2 _ rfl, h.lat 3 _ rfl, h.lat 4 _ rfl, h.lat 5 _ rfl, h.lat 6 _ rfl⟩

theorem Blk.frz7 {w : World} {b : Nat} {t : TypeId} {cs : Array Value} (h : Blk w b t cs) : w.frozen? ⟨b, 0, none⟩ = false ∧ w.frozen? ⟨b, 1, none⟩ = false ∧ w.frozen? ⟨b, 2, none⟩ = false ∧ w.frozen? ⟨b, 3, none⟩ = false ∧ w.frozen? ⟨b, 4, none⟩ = false ∧ w.frozen? ⟨b, 5, none⟩ = false ∧ w.frozen? ⟨b, 6, none⟩ = false :=
  ⟨h.frozen 0, h.frozen 1, h.frozen 2, h.frozen 3, h.frozen 4, h.frozen 5, h.frozen 6⟩

theorem Blk.cel8 {w : World} {b : Nat} {t : TypeId} {x0 x1 x2 x3 x4 x5 x6 x7 : Value} {r : List Value} (h : Blk w b t (x0 :: x1 :: x2 :: x3 :: x4 :: x5 :: x6 :: x7 :: r).toArray) : w.cell? ⟨b, 0, none⟩ = some x0 ∧ w.cell? ⟨b, 1, none⟩ = some x1 ∧ w.cell? ⟨b, 2, none⟩ = some x2 ∧ w.cell? ⟨b, 3, none⟩ = some x3 ∧ w.cell? ⟨b, 4, none⟩ = some x4 ∧ w.cell? ⟨b, 5, none⟩ = some x5 ∧ w.cell? ⟨b, 6, none⟩ = some x6 ∧ w.cell? ⟨b, 7, none⟩ = some x7 :=
  ⟨h.cell 0 _ rfl, h.cell 1 _ rfl, h.cell 2 _ rfl, h.cell 3 _ rfl, h.cell 4 _ rfl, h.cell 5 _ rfl, h.cell 6 _ rfl, h.cell 7 _ rfl⟩

theorem Blk.lts8 {w : World} {b : Nat} {t : TypeId} {x0 x1 x2 x3 x4 x5 x6 x7 : Value} {r : List Value} (h : Blk w b t (x0 :: x1 :: x2 :: x3 :: x4 :: x5 :: x6 :: x7 :: r).toArray) : (∀ u : Lat w, u.val.cell? ⟨b, 0, none⟩ = some x0) ∧ (∀ u : Lat w, u.val.cell? ⟨b, 1, none⟩ = some x1) ∧ (∀ u : Lat w, u.val.cell? ⟨b, 2, none⟩ = some x2) ∧ (∀ u : Lat w, u.val.cell? ⟨b, 3, none⟩ = some x3) ∧ (∀ u : Lat w, u.val.cell? ⟨b, 4, none⟩ = some x4) ∧ (∀ u : Lat w, u.val.cell? ⟨b, 5, none⟩ = some x5) ∧ (∀ u : Lat w, u.val.cell? ⟨b, 6, none⟩ = some x6) ∧ (∀ u : Lat w, u.val.cell? ⟨b, 7, none⟩ = some x7) :=
  ⟨h.lat 0 _ rfl, h.lat 1 _ rfl, h.lat 2 _ rfl, h.lat 3 _ rfl, h.lat 4 _ rfl, h.lat 5 _ rfl, h.lat 6 _ rfl, h.lat 7 _ rfl⟩

theorem Blk.frz8 {w : World} {b : Nat} {t : TypeId} {cs : Array Value} (h : Blk w b t cs) : w.frozen? ⟨b, 0, none⟩ = false ∧ w.frozen? ⟨b, 1, none⟩ = false ∧ w.frozen? ⟨b, 2, none⟩ = false ∧ w.frozen? ⟨b, 3, none⟩ = false ∧ w.frozen? ⟨b, 4, none⟩ = false ∧ w.frozen? ⟨b, 5, none⟩ = false ∧ w.frozen? ⟨b, 6, none⟩ = false ∧ w.frozen? ⟨b, 7, none⟩ = false :=
  ⟨h.frozen 0, h.frozen 1, h.frozen 2, h.frozen 3, h.frozen 4, h.frozen 5, h.frozen 6, h.frozen 7⟩

theorem Blk.cel9 {w : World} {b : Nat} {t : TypeId} {x0 x1 x2 x3 x4 x5 x6 x7 x8 : Value} {r : List Value} (h : Blk w b t (x0 :: x1 :: x2 :: x3 :: x4 :: x5 :: x6 :: x7 :: x8 :: r).toArray) : w.cell? ⟨b, 0, none⟩ = some x0 ∧ w.cell? ⟨b, 1, none⟩ = some x1 ∧ w.cell? ⟨b, 2, none⟩ = some x2 ∧ w.cell? ⟨b, 3, none⟩ = some x3 ∧ w.cell? ⟨b, 4, none⟩ = some x4 ∧ w.cell? ⟨b, 5, none⟩ = some x5 ∧ w.cell? ⟨b, 6, none⟩ = some x6 ∧ w.cell? ⟨b, 7, none⟩ = some x7 ∧ w.cell? ⟨b, 8, none⟩ = some x8 :=
  ⟨h.cell 0 _ rfl, h.cell 1 _ rfl, h.cell 2 _ rfl, h.cell 3 _ rfl, h.cell 4 _ rfl, h.cell 5 _ rfl, h.cell 6 _ rfl, h.cell 7 _ rfl, h.cell 8 _ rfl⟩

theorem Blk.lts9 {w : World} {b : Nat} {t : TypeId} {x0 x1 x2 x3 x4 x5 x6 x7 x8 : Value} {r : List Value} (h : Blk w b t (x0 :: x1 :: x2 :: x3 :: x4 :: x5 :: x6 :: x7 :: x8 :: r).toArray) : (∀ u : Lat w, u.val.cell? ⟨b, 0, none⟩ = some x0) ∧ (∀ u : Lat w, u.val.cell? ⟨b, 1, none⟩ = some x1) ∧ (∀ u : Lat w, u.val.cell? ⟨b, 2, none⟩ = some x2) ∧ (∀ u : Lat w, u.val.cell? ⟨b, 3, none⟩ = some x3) ∧ (∀ u : Lat w, u.val.cell? ⟨b, 4, none⟩ = some x4) ∧ (∀ u : Lat w, u.val.cell? ⟨b, 5, none⟩ = some x5) ∧ (∀ u : Lat w, u.val.cell? ⟨b, 6, none⟩ = some x6) ∧ (∀ u : Lat w, u.val.cell? ⟨b, 7, none⟩ = some x7) ∧ (∀ u : Lat w, u.val.cell? ⟨b, 8, none⟩ = some x8) :=
  ⟨h.lat 0 _ rfl, h.lat 1 _ rfl, h.lat 2 _ rfl, h.lat 3 _ rfl, h.lat 4 _ rfl, h.lat 5 _ rfl, h.lat 6 _ rfl, h.lat 7 _ rfl, h.lat 8 _ rfl⟩

theorem Blk.frz9 {w : World} {b : Nat} {t : TypeId} {cs : Array Value} (h : Blk w b t cs) : w.frozen? ⟨b, 0, none⟩ = false ∧ w.frozen? ⟨b, 1, none⟩ = false ∧ w.frozen? ⟨b, 2, none⟩ = false ∧ w.frozen? ⟨b, 3, none⟩ = false ∧ w.frozen? ⟨b, 4, none⟩ = false ∧ w.frozen? ⟨b, 5, none⟩ = false ∧ w.frozen? ⟨b, 6, none⟩ = false ∧ w.frozen? ⟨b, 7, none⟩ = false ∧ w.frozen? ⟨b, 8, none⟩ = false :=
  ⟨h.frozen 0, h.frozen 1, h.frozen 2, h.frozen 3, h.frozen 4, h.frozen 5, h.frozen 6, h.frozen 7, h.frozen 8⟩

end Go.Proofs.YtkklhbofeghnbaaDoor

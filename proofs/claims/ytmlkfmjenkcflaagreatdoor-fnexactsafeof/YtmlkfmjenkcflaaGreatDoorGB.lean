/- Acts and transactions as plain data, and when memory reads as such a list. No condition. -/
import Derived.Test.YtmlkfmjenkcflaaGreatDoorProg
import Derived.Test.YtmlkfmjenkcflaaGreatDoorGA
import Derived.WalkKit
import Derived.BigQuiet
import Derived.Deep.RegionHeld3
import Derived.Handy
import Derived.Lib.SmallJoins
namespace Go.Proofs.YtmlkfmjenkcflaaGreatDoor
open Go.RowKit
set_option linter.unusedVariables false
set_option maxRecDepth 100000
set_option linter.unusedSimpArgs false

/-- The cells from 'a' on hold xs. -/
def Lies (w : World) (a : Option Addr) (xs : List Value) : Prop :=
  xs = [] ∨ ∃ b off, a = some ⟨b, off, none⟩ ∧ b < w.heap.size ∧ ∀ i x, xs[i]? = some x → w.cell? ⟨b, off + i, none⟩ = some x

theorem Lies.below {w w' : World} {a : Option Addr} {xs : List Value} (h : Lies w a xs) (hb : Below w.heap.size w w') : Lies w' a xs := by
  rcases h with h | ⟨b, off, ha, hlt, hc⟩
  · exact Or.inl h
  · exact Or.inr ⟨b, off, ha, Nat.lt_of_lt_of_le hlt hb.size, fun i x hx => by rw [hb.cell (p := ⟨b, off + i, none⟩) hlt]; exact hc i x hx⟩

theorem Lies.own {w : World} {base e size n c : Nat} {a : Option Addr} {xs : List Value} (h : w.ownsRow base e size (.slice a n c) n xs) : Lies w a xs := by
  rcases h.2 with ⟨he, hn⟩ | ⟨g, cap, cur, he, hb, hg, r⟩
  · left
    have := h.1
    rw [hn, Nat.zero_mul] at this
    exact List.eq_nil_of_length_eq_zero this
  · right
    simp only [Value.slice.injEq, true_and] at he
    obtain ⟨rfl, rfl⟩ := he
    refine ⟨g, 0, rfl, (Array.getElem?_eq_some_iff.1 hg).1, fun i x hx => ?_⟩
    have hi : i < n * size := by rw [← h.1]; exact (List.getElem?_eq_some_iff.1 hx).1
    rw [Nat.zero_add, h.cellAt i hi, hx]

/-- A list whose head is written over, place by place. -/
def layV (zs xs : List Value) (k : Nat) : List Value := zs.take k ++ xs.drop k

theorem layV_zero (zs xs : List Value) : layV zs xs 0 = xs := by simp [layV]
theorem layV_all (zs xs : List Value) (k : Nat) (h : xs.length = zs.length) (hk : zs.length = k) : layV zs xs k = zs := by
  have : xs.drop k = [] := List.drop_of_length_le (by omega)
  simp [layV, this, ← hk]
  omega
theorem layV_length (zs xs : List Value) (k : Nat) (h : xs.length = zs.length) (hk : k ≤ zs.length) : (layV zs xs k).length = zs.length := by simp [layV]; omega
theorem layV_step (zs xs : List Value) (k : Nat) (v : Value) (h : xs.length = zs.length) (hv : zs[k]? = some v) : (layV zs xs k).set k v = layV zs xs (k + 1) := by
  have hk : k < zs.length := (List.getElem?_eq_some_iff.1 hv).1
  apply List.ext_getElem?
  intro j
  simp only [layV, List.getElem?_set, List.getElem?_append, List.length_append, List.length_take, List.length_drop, List.getElem?_drop, List.getElem?_take]
  by_cases hj : j = k
  · subst hj
    simp [Nat.min_eq_left (Nat.le_of_lt hk), Nat.min_eq_left (show j + 1 ≤ zs.length by omega), hv]
    omega
  · rw [if_neg (by omega), Nat.min_eq_left (by omega), Nat.min_eq_left (by omega)]
    by_cases hlt : j < k
    · simp [hlt, show j < k + 1 by omega]
    · rw [if_neg hlt, if_neg (by omega)]
      congr 1; omega

structure ActD where
  kind : Int
  key : Int
  val : Int
def actNo : ActD := ⟨0, 0, 0⟩
def ActD.cells (x : ActD) : List Value := [.int .i64 x.kind, .int .i64 x.key, .int .i64 x.val]
def actCells (xs : List ActD) : List Value := xs.flatMap ActD.cells
def ActRow (w : World) (a : Option Addr) (xs : List ActD) : Prop := Lies w a (actCells xs)

theorem actCells_length (xs : List ActD) : (actCells xs).length = xs.length * 3 := by
  induction xs with
  | nil => rfl
  | cons x xs ih => simp only [actCells, List.flatMap_cons, List.length_append, List.length_cons] at ih ⊢; rw [ih]; simp [ActD.cells]; omega

theorem actCells_get (xs : List ActD) : ∀ (i : Nat), i < xs.length → (actCells xs)[i * 3]? = some (.int .i64 (xs.getD i actNo).kind) ∧ (actCells xs)[i * 3 + 1]? = some (.int .i64 (xs.getD i actNo).key) ∧ (actCells xs)[i * 3 + 2]? = some (.int .i64 (xs.getD i actNo).val) := by
  induction xs with
  | nil => intro i h; simp at h
  | cons x xs ih =>
    intro i h
    cases i with
    | zero => simp [actCells, ActD.cells]
    | succ i =>
      have e : actCells (x :: xs) = x.cells ++ actCells xs := rfl
      have hl : x.cells.length = 3 := rfl
      obtain ⟨h1, h2, h3⟩ := ih i (by simpa using h)
      rw [e, List.getElem?_append_right (by omega), List.getElem?_append_right (by omega), List.getElem?_append_right (by omega), hl, show (i + 1) * 3 - 3 = i * 3 by omega, show (i + 1) * 3 + 1 - 3 = i * 3 + 1 by omega, show (i + 1) * 3 + 2 - 3 = i * 3 + 2 by omega]
      simpa [List.getD] using ⟨h1, h2, h3⟩

theorem ActRow.below {w w' : World} {a : Option Addr} {xs : List ActD} (h : ActRow w a xs) (hb : Below w.heap.size w w') : ActRow w' a xs := Lies.below h hb

theorem ActRow.at {w : World} {a : Option Addr} {xs : List ActD} (h : ActRow w a xs) (i : Nat) (hi : i < xs.length) :
    ∃ b off, a = some ⟨b, off, none⟩ ∧ b < w.heap.size ∧ w.cell? ⟨b, off + i * 3, none⟩ = some (.int .i64 (xs.getD i actNo).kind) ∧ w.cell? ⟨b, off + i * 3 + 1, none⟩ = some (.int .i64 (xs.getD i actNo).key) ∧ w.cell? ⟨b, off + i * 3 + 2, none⟩ = some (.int .i64 (xs.getD i actNo).val) := by
  obtain ⟨h1, h2, h3⟩ := actCells_get xs i hi
  rcases h with h | ⟨b, off, ha, hlt, hc⟩
  · have := actCells_length xs
    rw [h] at this
    simp at this
    omega
  · exact ⟨b, off, ha, hlt, hc _ _ h1, by rw [Nat.add_assoc]; exact hc _ _ h2, by rw [Nat.add_assoc]; exact hc _ _ h3⟩

theorem infoAct : (Tryz.prog.info? 105).map (fun i => (i.zero, i.size, i.bytes)) = some (some (.agg #[.int .i64 0, .int .i64 0, .int .i64 0]), 3, 24) := by kernel_rfl

set_option maxHeartbeats 1000000 in
theorem toAct_any (k y v : Int) (w : World) :
    Calls Tryz.prog 56 #[.agg #[.int .i64 k, .int .i64 y, .int .i64 v]] w fun e w' => e = .returned (.agg #[.int .i64 k, .int .i64 y, .int .i64 v]) ∧ Below w.heap.size w w' := by
  go_enter Tryz.func56, Tryz.ntmps56
  go_wp2
  exact bodyPost_ret (v := .agg #[.int .i64 k, .int .i64 y, .int .i64 v]) (by simp [results, Tryz.results56, go_sem]) rfl ⟨rfl, by go_grown⟩

/-- Three cells of a row of threes are written over. -/
theorem lay3 {w : World} {base e g cap n k : Nat} {zs ys : List Value} {v0 v1 v2 : Value} (ho : w.ownsRow base e 3 (.slice (some ⟨g, 0, none⟩) n cap) n (layV zs ys (k * 3)))
    (hl : ys.length = zs.length) (hz : zs.length = n * 3) (hk : k < n) (g0 : zs[k * 3]? = some v0) (g1 : zs[k * 3 + 1]? = some v1) (g2 : zs[k * 3 + 2]? = some v2) :
    (((w.setCell ⟨g, k * 3, none⟩ v0).setCell ⟨g, k * 3 + 1, none⟩ v1).setCell ⟨g, k * 3 + 2, none⟩ v2).ownsRow base e 3 (.slice (some ⟨g, 0, none⟩) n cap) n (layV zs ys ((k + 1) * 3)) ∧
    (w.frozen? ⟨g, k * 3, none⟩ = false ∧ w.frozen? ⟨g, k * 3 + 1, none⟩ = false ∧ w.frozen? ⟨g, k * 3 + 2, none⟩ = false) ∧
    ((∃ u, w.cell? ⟨g, k * 3, none⟩ = some u) ∧ (∃ u, w.cell? ⟨g, k * 3 + 1, none⟩ = some u) ∧ (∃ u, w.cell? ⟨g, k * 3 + 2, none⟩ = some u)) ∧
    (∀ B a, Below B a w → B ≤ g → Below B a (((w.setCell ⟨g, k * 3, none⟩ v0).setCell ⟨g, k * 3 + 1, none⟩ v1).setCell ⟨g, k * 3 + 2, none⟩ v2)) := by
  have hc : ∀ j, j < n * 3 → ∃ u, w.cell? ⟨g, j, none⟩ = some u := fun j hj => by
    rw [ho.cellAt j hj]
    exact ⟨_, List.getElem?_eq_getElem (by rw [ho.1]; exact hj)⟩
  have s0 := (ho.stored (k * 3) v0).1
  rw [layV_step _ _ _ _ hl g0] at s0
  have s1 := (s0.stored (k * 3 + 1) v1).1
  rw [layV_step _ _ _ _ hl g1] at s1
  have s2 := (s1.stored (k * 3 + 2) v2).1
  rw [layV_step _ _ _ _ hl g2, show k * 3 + 2 + 1 = (k + 1) * 3 by omega] at s2
  exact ⟨s2, ⟨ho.frozenAt _, ho.frozenAt _, ho.frozenAt _⟩, ⟨hc _ (by omega), hc _ (by omega), hc _ (by omega)⟩, fun B a h hB => ((h.setCell hB _).setCell hB _).setCell hB _⟩

set_option maxHeartbeats 1000000 in
theorem toActS_any (a : Option Addr) (cap : Nat) (zs : List ActD) (w : World) (h : ActRow w a zs) (hl : zs.length ≤ 1048576) :
    Calls Tryz.prog 43 #[.slice a zs.length cap] w fun e w' => ∃ g c, e = .returned (.slice (some ⟨g, 0, none⟩) zs.length c) ∧
      w'.ownsRow w.heap.size 105 3 (.slice (some ⟨g, 0, none⟩) zs.length c) zs.length (actCells zs) ∧ Below w.heap.size w w' := by
  obtain ⟨i0, hi, hz0, hz1, hz2⟩ := info_parts infoAct
  have hbytes : i0.bytes * zs.length ≤ 281474976710656 := by rw [hz2]; omega
  have hmax : zs.length ≤ maxLen := by unfold maxLen; omega
  have hcl := actCells_length zs
  go_enter Tryz.func43, Tryz.ntmps43
  go_wp2_with (at_make; refine wpList_make_full _ rfl _ _ 63 rfl w.heap.size 105 i0 (.agg #[.int .i64 0, .int .i64 0, .int .i64 0]) 3 Tryz.underlying63 hi hz0 hz1 _ _ _ _ zs.length rfl rfl rfl rfl hbytes hmax (Nat.le_refl _) ?_)
  intro w1 hown hgrow
  have hlen0 : (madeCells #[Value.int .i64 0, .int .i64 0, .int .i64 0] (zs.length * 3)).toList.length = (actCells zs).length := by simp [size_madeCells, hcl]
  have hb1 : Below w.heap.size w w1 := (Below.refl _ _).grown hgrow (Nat.le_refl _) (by simp)
  generalize (madeCells #[Value.int .i64 0, .int .i64 0, .int .i64 0] (zs.length * 3)).toList = ys at hown hlen0
  rw [← layV_zero (actCells zs) ys] at hown
  go_wp2
  go_loopw [4] (fun i wr => ∃ k : Nat, k ≤ zs.length ∧ i = .int .i64 k ∧ wr.ownsRow w.heap.size 105 3 (.slice (some ⟨w.heap.size, 0, none⟩) zs.length zs.length) zs.length (layV (actCells zs) ys (k * 3)) ∧ Below w.heap.size w wr) (fun i _ => zs.length - (intOf i).toNat)
  case atStart => exact ⟨0, Nat.zero_le _, rfl, by simpa using hown, hb1⟩
  case round =>
    obtain ⟨k, hk, rfl, ho, hb⟩ := hrel
    by_cases hlt : k < zs.length
    · obtain ⟨b, off, rfl, hbs, hc0, hc1, hc2⟩ := (h.below hb).at k hlt
      obtain ⟨g0, g1, g2⟩ := actCells_get zs k hlt
      generalize zs.getD k actNo = z at hc0 hc1 hc2 g0 g1 g2
      go_wp2_with fail
      refine (toAct_any _ _ _ _).mono ?_
      rintro e w2 ⟨rfl, hb2⟩
      replace ho := own_below ho hb2
      replace hb := hb.trans (hb2.mono hb.size)
      clear hc0 hc1 hc2 hb2
      obtain ⟨hst, hfr, hce, hbel⟩ := lay3 ho hlen0 hcl hlt g0 g1 g2
      obtain ⟨f0, f1, f2⟩ := hfr
      obtain ⟨⟨u0, e0⟩, ⟨u1, e1⟩, ⟨u2, e2⟩⟩ := hce
      have R : Hid (_ ∧ _) := ⟨hst, hbel _ _ hb (Nat.le_refl _)⟩
      clear hst hbel g0 g1 g2 ho
      go_wp2
      go_roundw
      case rel => exact ⟨k + 1, by omega, by go_num, R.out.1, R.out.2⟩
      case measure => simp [intOf]; omega
    · go_wp2
      go_ret
      have hkl : k = zs.length := by omega
      subst hkl
      rw [layV_all _ _ _ hlen0 hcl] at ho
      exact ⟨_, _, rfl, ho, hb⟩

end Go.Proofs.YtmlkfmjenkcflaaGreatDoor

/- A region that draws its order, walked in one order that is named: whatever only computes or reads under a condition S is taken first; a call is met by its contract, and behind it S is shown anew. No condition on the program but that no select stands in the region. -/
namespace Go.Proofs.YtmlkfmjenkcflaaGreatDoor
open Go.RowKit
set_option linter.unusedVariables false
set_option maxRecDepth 100000
set_option linter.unusedSimpArgs false

/-- The region of that number, out of a function's code. -/
def regNo (n : Nat) : Code → Option Code
  | .region i ops d => if i = n then some (.region i ops d) else none
  | .seq a b => match regNo n a with
    | some c => some c
    | none => regNo n b
  | .cond _ a b => match regNo n a with
    | some c => some c
    | none => regNo n b
  | .block _ c => regNo n c
  | .loop c => regNo n c
  | .scope c => regNo n c
  | _ => none

/-- The worlds that have new memory alone beside w. -/
structure Lat (w : World) where
  val : World
  isBelow : Below w.heap.size w val

/-- The worlds that are as w below B. -/
structure LatB (B : Nat) (w : World) where
  val : World
  isBelow : Below B w val

/-- Operations that yield one value and nothing else. -/
def plainB : Op → Bool
  | .move _ => true
  | .assign _ => true
  | .pick _ _ _ => true
  | .load _ _ => true
  | .fieldAddr _ _ _ => true
  | .field _ _ _ => true
  | .binOp _ _ _ _ _ => true
  | .unOp _ _ _ => true
  | .convert _ _ _ => true
  | .indexAddr _ _ _ => true
  | .extract _ _ => true
  | .nilCheck _ => true
  | .build _ _ => true
  | _ => false

theorem value_of_bind {P : Program} {s : Sem Value} {w w' : World} {n : Next} (h : (do let x ← s; pure (Next.value x) : Sem Next).run P w = .ok n w') : ∃ v, n = .value v := by
  rw [Sem.run_bind] at h
  cases hs : s.run P w with
  | ok x w1 =>
    rw [hs] at h
    simp [Result.andThen, Sem.run_pure] at h
    exact ⟨x, h.1.symm⟩
  | halt x w1 =>
    rw [hs] at h
    simp [Result.andThen] at h

theorem value_of_nil {P : Program} {g : Program → Sem (Option Bool)} {u : Unsupported} {x : Value} {w w' : World} {n : Next}
    (h : (do let p ← program; let r ← g p; if (r != some false) = true then do unsupported u; pure (Next.value x) else pure (Next.value x) : Sem Next).run P w = .ok n w') : ∃ v, n = .value v := by
  simp only [Sem.run_bind, run_program, Result.andThen_ok] at h
  cases hs : (g P).run P w with
  | ok r w1 =>
    rw [hs] at h
    simp only [Result.andThen_ok] at h
    split at h
    · rw [Sem.run_bind] at h
      cases hu : (unsupported u : Sem Unit).run P w1 with
      | ok r w2 => rw [hu] at h; simp [Sem.run_pure] at h; exact ⟨_, h.1.symm⟩
      | halt r w2 => rw [hu] at h; simp [Result.andThen] at h
    · simp [Sem.run_pure] at h; exact ⟨_, h.1.symm⟩
  | halt r w1 => rw [hs] at h; simp [Result.andThen] at h

theorem plain_value {P : Program} {o : Oper} {ρ : Operand → Value} {w w' : World} {n : Next} (hp : plainB o.op = true) (h : (execOp ρ o).run P w = .ok n w') : ∃ v, n = .value v := by
  unfold execOp at h
  cases hop : o.op <;> rw [hop] at hp <;> simp only [plainB, Bool.false_eq_true] at hp <;> rw [hop] at h <;> dsimp only at h
  all_goals first
    | exact value_of_bind h
    | (simp [Sem.run_pure] at h; exact ⟨_, h.1.symm⟩)
    | (split at h
       all_goals first
         | (simp [Sem.run_pure] at h; exact ⟨_, h.1.symm⟩)
         | (simp [go_sem] at h; done)
         | (split at h
            all_goals first
              | (simp [Sem.run_pure] at h; exact ⟨_, h.1.symm⟩)
              | (simp [go_sem] at h; done)
              | (exact value_of_nil (g := fun p => nilAhead (p.types.size + Made.depth) _ _ _) h)))
    | (rw [Sem.run_bind] at h
       revert h
       cases (asBool (ρ _)).run P w with
       | ok x w1 => intro h; simp [Result.andThen, Sem.run_pure] at h; exact ⟨_, h.1.symm⟩
       | halt x w1 => intro h; simp [Result.andThen] at h)

section
variable {P : Program} {ops : Array Oper} {Q : Exit → Act → World → Prop} {S : World → Prop}

/-- These may come up one behind the other, each ahead of all that has not come up. -/
def okSeg (ops : Array Oper) : List Nat → Array Bool → Bool
  | [], _ => true
  | i :: r, l => Region.free .any ops l i && (Region.ready .any ops l).contains i && okSeg ops r (l.setIfInBounds i true)

/-- What has come up behind these. -/
def upTo : List Nat → Array Bool → Array Bool
  | [], l => l
  | i :: r, l => upTo r (l.setIfInBounds i true)

/-- The numbers, and the operations, of ranges (from, how many). -/
def idxR (rs : List (Nat × Nat)) : List Nat := rs.flatMap fun r => (List.range r.2).map (r.1 + ·)
def pickR (l : List Oper) (rs : List (Nat × Nat)) : List Oper := rs.flatMap fun r => (l.drop r.1).take r.2

theorem pkE : (∀ (l : List Oper) (rs : List (Nat × Nat)), pickR l rs = rs.flatMap fun r => (l.drop r.1).take r.2) ∧ (∀ l : List Oper, l.toArray.toList = l) ∧
    (∀ (f : Nat × Nat → List Oper) (x : Nat × Nat) (xs : List (Nat × Nat)), (x :: xs).flatMap f = f x ++ xs.flatMap f) ∧ (∀ f : Nat × Nat → List Oper, List.flatMap f [] = []) ∧
    (∀ (o : Oper) (l : List Oper) (i : Nat), (o :: l).drop (i + 1) = l.drop i) ∧ (∀ l : List Oper, l.drop 0 = l) ∧ (∀ (o : Oper) (l : List Oper) (i : Nat), (o :: l).take (i + 1) = o :: l.take i) ∧ (∀ l : List Oper, l.take 0 = []) ∧
    (∀ (o : Oper) (l m : List Oper), (o :: l) ++ m = o :: (l ++ m)) ∧ (∀ l : List Oper, [] ++ l = l) ∧ (∀ l : List Oper, l ++ [] = l) :=
  ⟨fun _ _ => rfl, fun _ => rfl, fun _ _ _ => List.flatMap_cons, fun _ => rfl, fun _ _ _ => rfl, fun _ => rfl, fun _ _ _ => rfl, fun _ => rfl, fun _ _ _ => rfl, fun _ => rfl, fun _ => List.append_nil _⟩

theorem seg_sound (hs : Region.noSelect ops = true) (hQ : ∀ c a d v w, Q (.panic c) (a.put d v) w → Q (.panic c) a w) :
    ∀ (idx : List Nat) (os : List Oper) (l : Array Bool) (a : Act) (w : World) (fuel : Nat), idx.map (ops[·]?) = os.map some → os.all (fun o => plainB o.op) = true → okSeg ops idx l = true → S w →
      wpQuiet P ops S (fun a' => wpAnyH P .any ops Q S fuel (upTo idx l) a' w) os a → wpAnyH P .any ops Q S (fuel + idx.length) l a w := by
  intro idx
  induction idx with
  | nil =>
    intro os l a w fuel hos _ _ _ h
    cases os with
    | nil => exact h
    | cons o os => simp at hos
  | cons i r ih =>
    intro os l a w fuel hos hpl hok hS h
    cases os with
    | nil => simp at hos
    | cons o os =>
      simp only [List.map_cons, List.cons.injEq] at hos
      simp only [List.all_cons, Bool.and_eq_true] at hpl
      simp only [okSeg, Bool.and_eq_true] at hok
      obtain ⟨⟨hf, hr⟩, hok'⟩ := hok
      simp only [wpQuiet] at h
      by_cases hw : Region.wanted o (yielded ops a.tmps) = true
      · rw [if_pos hw] at h
        obtain ⟨v, hv, hk⟩ := h
        refine wpAnyH_take (i := i) (oi := o) (v := v) hos.1 hs hf hr (fun c a w => hQ c a _ _ w) (Or.inl ⟨hw, fun u hu => ?_⟩) hS (ih os _ _ w fuel hos.2 hpl.2 hok' hS hk)
        have hq := hv u hu
        unfold Oper.quietAt at hq
        cases hrun : (execOp a.eval o).run P u with
        | ok n u' =>
          obtain ⟨x, rfl⟩ := plain_value hpl.1 hrun
          rw [hrun] at hq
          obtain ⟨e1, e2⟩ := hq
          rw [e1, e2]
        | halt x u' =>
          rw [hrun] at hq
          exact hq.elim
      · rw [if_neg hw] at h
        have hw' : Region.wanted o (yielded ops a.tmps) = false := by simpa using hw
        exact wpAnyH_take (i := i) (oi := o) (v := undef) hos.1 hs hf hr (fun c a w => hQ c a _ _ w) (Or.inr ⟨hw', rfl⟩) hS (ih os _ _ w fuel hos.2 hpl.2 hok' hS h)

/-- An operation whose guard says no. -/
theorem skip_sound (hs : Region.noSelect ops = true) (hQ : ∀ c a d v w, Q (.panic c) (a.put d v) w → Q (.panic c) a w) (i : Nat) (d : Option Tmp) {l : Array Bool} {a : Act} {w : World} {fuel : Nat}
    (hd : (ops[i]?).map (·.dst) = some d) (hok : okSeg ops [i] l = true) (hw : (ops[i]?).map (fun o => Region.wanted o (yielded ops a.tmps)) = some false) (hS : S w)
    (h : wpAnyH P .any ops Q S fuel (upTo [i] l) (a.put d undef) w) : wpAnyH P .any ops Q S (fuel + 1) l a w := by
  cases ho : ops[i]? with
  | none => rw [ho] at hd; simp at hd
  | some o =>
    rw [ho] at hd hw
    simp only [Option.map_some, Option.some.injEq] at hd hw
    subst hd
    simp only [okSeg, Bool.and_eq_true, Bool.and_true] at hok
    exact wpAnyH_take (i := i) (oi := o) (v := undef) ho hs hok.1 hok.2 (fun c a w => hQ c a _ _ w) (Or.inr ⟨hw, rfl⟩) hS h

/-- A call that alone may come up: by its contract, S shown anew. -/
theorem call_sound (i : Nat) (d : Option Tmp) (f : Nat) (args : Array Value) {l : Array Bool} {a : Act} {w : World} {fuel : Nat}
    (hd : (ops[i]?).map (·.dst) = some d) (hr : Region.ready .any ops l = [i]) (hw : (ops[i]?).map (fun o => Region.wanted o (yielded ops a.tmps)) = some true)
    (hrun : (ops[i]?).map (fun o => (execOp a.eval o).run P w) = some (.ok (.enter f args) w))
    (hc : Calls P f args w (fun e w' => ∃ v, e = .returned v ∧ S w' ∧ wpAnyH P .any ops Q S fuel (upTo [i] l) (a.put d v) w')) : wpAnyH P .any ops Q S (fuel + 1) l a w := by
  cases ho : ops[i]? with
  | none => rw [ho] at hd; simp at hd
  | some o =>
    rw [ho] at hd hw hrun
    simp only [Option.map_some, Option.some.injEq] at hd hw hrun
    subst hd
    refine wpAnyH_all hr (by simp) (fun j hj => ?_)
    simp only [List.mem_singleton] at hj
    subst hj
    unfold wpOp
    simp only [ho, hw, if_true]
    refine .inl ?_
    unfold Oper.wp
    rw [hrun]
    simp only [Oper.upon]
    refine hc.mono fun e w' he => ?_
    obtain ⟨v, rfl, h1, h2⟩ := he
    exact ⟨h1, h2⟩

/-- The same over ranges; the fuel as it stands. -/
theorem seg_range (rs : List (Nat × Nat)) (fuel : Nat) {F : Nat} {l : Array Bool} {a : Act} {w : World} (hF : F = fuel + (idxR rs).length) (hs : Region.noSelect ops = true) (hm : (idxR rs).map (ops[·]?) = (pickR ops.toList rs).map some)
    (hp : (pickR ops.toList rs).all (fun o => plainB o.op) = true) (hok : okSeg ops (idxR rs) l = true) (hS : S w)
    (h : wpQuiet P ops S (fun a' => wpAnyH P .any ops (NoPanic Q) S fuel (upTo (idxR rs) l) a' w) (pickR ops.toList rs) a) : wpAnyH P .any ops (NoPanic Q) S F l a w := by
  subst hF
  exact seg_sound hs (fun _ _ _ _ _ h => h) (idxR rs) _ l a w fuel hm hp hok hS h

theorem skip_at (i : Nat) (d : Option Tmp) (fuel : Nat) {F : Nat} {l : Array Bool} {a : Act} {w : World} (hF : F = fuel + 1) (hs : Region.noSelect ops = true)
    (hd : (ops[i]?).map (·.dst) = some d) (hok : okSeg ops [i] l = true) (hw : (ops[i]?).map (fun o => Region.wanted o (yielded ops a.tmps)) = some false) (hS : S w)
    (h : wpAnyH P .any ops (NoPanic Q) S fuel (upTo [i] l) (a.put d undef) w) : wpAnyH P .any ops (NoPanic Q) S F l a w := by
  subst hF
  exact skip_sound hs (fun _ _ _ _ _ h => h) i d hd hok hw hS h

theorem call_at (i : Nat) (d : Option Tmp) (f : Nat) (args : Array Value) (fuel : Nat) {F : Nat} {l : Array Bool} {a : Act} {w : World} (hF : F = fuel + 1)
    (hd : (ops[i]?).map (·.dst) = some d) (hr : Region.ready .any ops l = [i]) (hw : (ops[i]?).map (fun o => Region.wanted o (yielded ops a.tmps)) = some true)
    (hrun : (ops[i]?).map (fun o => (execOp a.eval o).run P w) = some (.ok (.enter f args) w))
    (hc : Calls P f args w (fun e w' => ∃ v, e = .returned v ∧ S w' ∧ wpAnyH P .any ops (NoPanic Q) S fuel (upTo [i] l) (a.put d v) w')) : wpAnyH P .any ops (NoPanic Q) S F l a w := by
  subst hF
  exact call_sound i d f args hd hr hw hrun hc

theorem sgr (rs : List (Nat × Nat)) (fuel : Nat) {F : Nat} {l : Array Bool} {a : Act} {w : World} (h5 : (F, Region.noSelect ops, (idxR rs).map (ops[·]?), (pickR ops.toList rs).all (fun o => plainB o.op), okSeg ops (idxR rs) l) = (fuel + (idxR rs).length, true, (pickR ops.toList rs).map some, true, true)) (hS : S w)
    (h : wpQuiet P ops S (fun a' => wpAnyH P .any ops (NoPanic Q) S fuel (upTo (idxR rs) l) a' w) (pickR ops.toList rs) a) : wpAnyH P .any ops (NoPanic Q) S F l a w := by
  simp only [Prod.mk.injEq] at h5
  exact seg_range rs fuel h5.1 h5.2.1 h5.2.2.1 h5.2.2.2.1 h5.2.2.2.2 hS h

theorem ska (i : Nat) (d : Option Tmp) (fuel : Nat) {F : Nat} {l : Array Bool} {a : Act} {w : World} (h5 : (F, Region.noSelect ops, (ops[i]?).map (·.dst), okSeg ops [i] l, (ops[i]?).map (fun o => Region.wanted o (yielded ops a.tmps))) = (fuel + 1, true, some d, true, some false)) (hS : S w)
    (h : wpAnyH P .any ops (NoPanic Q) S fuel (upTo [i] l) (a.put d undef) w) : wpAnyH P .any ops (NoPanic Q) S F l a w := by
  simp only [Prod.mk.injEq] at h5
  exact skip_at i d fuel h5.1 h5.2.1 h5.2.2.1 h5.2.2.2.1 h5.2.2.2.2 hS h

theorem cla (i : Nat) (d : Option Tmp) (f : Nat) (args : Array Value) (fuel : Nat) {F : Nat} {l : Array Bool} {a : Act} {w : World} (h5 : (F, (ops[i]?).map (·.dst), Region.ready .any ops l, (ops[i]?).map (fun o => Region.wanted o (yielded ops a.tmps)), (ops[i]?).map (fun o => (execOp a.eval o).run P w)) = (fuel + 1, some d, [i], some true, some (.ok (.enter f args) w)))
    (hc : Calls P f args w (fun e w' => ∃ v, e = .returned v ∧ S w' ∧ wpAnyH P .any ops (NoPanic Q) S fuel (upTo [i] l) (a.put d v) w')) : wpAnyH P .any ops (NoPanic Q) S F l a w := by
  simp only [Prod.mk.injEq] at h5
  exact call_at i d f args fuel h5.1 h5.2.1 h5.2.2.1 h5.2.2.2.1 h5.2.2.2.2 hc

/-- What one operation of a region is to come to. -/
def ThenGo (Q : Exit → Act → World → Prop) (K : Act → World → Prop) : Exit → Act → World → Prop
  | .normal, a, w => K a w
  | e, a, w => NoPanic Q e a w
theorem ThenGo.to {K : Act → World → Prop} {a : Act} {w : World} (h : K a w) : ThenGo Q K .normal a w := h

/-- An operation that alone may come up, whatever it does: walked as a list of one. -/
theorem one_at (i : Nat) (o : Oper) (fuel : Nat) {F : Nat} {l : Array Bool} {a : Act} {w : World} (hF : F = fuel + 1) (ho : ops[i]? = some o) (hr : Region.ready .any ops l = [i])
    (h : wpList P ops (ThenGo Q (fun a' w' => S w' ∧ wpAnyH P .any ops (NoPanic Q) S fuel (upTo [i] l) a' w')) [o] a w) : wpAnyH P .any ops (NoPanic Q) S F l a w := by
  subst hF
  refine wpAnyH_all hr (by simp) (fun j hj => ?_)
  simp only [List.mem_singleton] at hj
  subst hj
  unfold wpOp
  simp only [ho]
  simp only [wpList] at h
  split at h
  · rename_i hw
    rw [if_pos hw]
    rcases h with h | ⟨h1, h2⟩
    · left
      unfold Oper.wp at h ⊢
      revert h
      generalize (execOp a.eval o).run P w = r
      intro h
      unfold Oper.upon at h ⊢
      split at h
      · exact h
      · exact h
      · exact h
      · refine Calls.mono h fun e w' he => ?_
        cases e <;> exact he
      · exact h
      · exact h
      · exact h
    · exact Or.inr ⟨h1, h2⟩
  · rename_i hw
    rw [if_neg hw]
    exact h

theorem ona (i : Nat) {o : Oper} (fuel : Nat) {F : Nat} {l : Array Bool} {a : Act} {w : World} (ho : ops[i]? = some o) (h2 : (F, Region.ready .any ops l) = (fuel + 1, [i]))
    (h : wpList P ops (ThenGo Q (fun a' w' => S w' ∧ wpAnyH P .any ops (NoPanic Q) S fuel (upTo [i] l) a' w')) [o] a w) : wpAnyH P .any ops (NoPanic Q) S F l a w := by
  simp only [Prod.mk.injEq] at h2
  exact one_at i o fuel h2.1 ho h2.2 h

/-- All have come up. -/
theorem text_end {F : Nat} {l : Array Bool} {a : Act} {w : World} (hr : Region.ready .any ops l = []) (h : Q .normal a w) : wpAnyH P .any ops (NoPanic Q) S F l a w := wpAnyH_done hr (NoPanic.normal h) F

/-- The beginning. -/
theorem text_begin {id : Nat} {a : Act} {w : World} (hm : P.follows .mixedOrders = true)
    (h : wpAnyH P .any ops (NoPanic Q) S ops.size (Array.replicate ops.size false) a w.drew) : (Code.region id ops true).wp P Q a w :=
  wp_region_noPanic (wp_region_held hm h)

theorem noPanic_put : ∀ c a d v w, NoPanic Q (.panic c) (Act.put a d v) w → NoPanic Q (.panic c) a w := fun _ _ _ _ _ h => h

end

end Go.Proofs.YtmlkfmjenkcflaaGreatDoor

/- What the helpers of the laws on lists of acts do: they compare, mark, and look for marks. -/
namespace Go.Proofs.YtmlkfmjenkcflaaGreatDoor
open Go.RowKit
open Go.BigFrame
set_option linter.unusedVariables false
set_option maxRecDepth 100000
set_option linter.unusedSimpArgs false

set_option maxHeartbeats 1000000 in
theorem eqAct_true (k y v : Int) (w : World) :
    Calls Tryz.prog 62 #[.agg #[.int .i64 k, .int .i64 y, .int .i64 v], .agg #[.int .i64 k, .int .i64 y, .int .i64 v]] w fun e w' => e = .returned (.bool true) ∧ Below w.heap.size w w' := by
  have h0 : (k != k) = false := by simp
  have h1 : (y != y) = false := by simp
  have h2 : (v != v) = false := by simp
  go_enter Tryz.func62, Tryz.ntmps62
  go_wp2
  go_ret
  exact ⟨rfl, by go_grown⟩

theorem lat_cell {w : World} {a : Addr} {v : Value} (h : w.cell? a = some v) : ∀ u : Lat w, u.val.cell? a = some v := fun u => by
  rw [u.isBelow.cell (World.block_lt_of_cell? w a h)]; exact h

set_option maxHeartbeats 2000000 in
theorem eqActS_true (a a' : Option Addr) (cap cap' : Nat) (zs : List ActD) (w : World) (h : ActRow w a zs) (h' : ActRow w a' zs) (hl : zs.length ≤ 1099511627776) :
    Calls Tryz.prog 49 #[.slice a zs.length cap, .slice a' zs.length cap'] w fun e w' => e = .returned (.bool true) ∧ Below w.heap.size w w' := by
  go_enter Tryz.func49, Tryz.ntmps49
  go_wp2
  go_loopw [5] (fun i wr => ∃ k : Nat, k ≤ zs.length ∧ i = .int .i64 k ∧ Below w.heap.size w wr) (fun i _ => zs.length - (intOf i).toNat)
  case atStart => exact ⟨0, Nat.zero_le _, rfl, Below.refl _ _⟩
  case round =>
    obtain ⟨k, hk, rfl, hb⟩ := hrel
    by_cases hlt : k < zs.length
    · obtain ⟨b, off, rfl, hbs, hc0, hc1, hc2⟩ := (h.below hb).at k hlt
      obtain ⟨b', off', rfl, hbs', hd0, hd1, hd2⟩ := (h'.below hb).at k hlt
      generalize zs.getD k actNo = z at hc0 hc1 hc2 hd0 hd1 hd2
      obtain ⟨z0, z1, z2⟩ := z
      have k0 := lat_cell hc0
      have k1 := lat_cell hc1
      have k2 := lat_cell hc2
      have l0 := lat_cell hd0
      have l1 := lat_cell hd1
      have l2 := lat_cell hd2
      clear hc0 hc1 hc2 hd0 hd1 hd2
      have hW : Below wr.heap.size wr wr.drew := (Below.refl _ _).drew
      have hne : Nonempty (Lat wr) := ⟨⟨wr, Below.refl _ _⟩⟩
      go_wp2_with fail
      refine text_begin (S := fun w' => ∃ u : Lat wr, w' = u.val) (by kernel_rfl) ?_
      refine seg_range [(0, 8)] 2 (by kernel_rfl) (by kernel_rfl) (by kernel_rfl) (by kernel_rfl) (by kernel_rfl) ⟨⟨_, hW⟩, rfl⟩ ?_
      simp only [pickR, List.toList_toArray, List.flatMap_cons, List.flatMap_nil, List.drop_succ_cons, List.drop_zero, List.take_succ_cons, List.take_zero, List.cons_append, List.nil_append, List.append_nil]
      repeat go_big_quiet_step (fail)
      refine wpQuiet_nil ?_
      refine call_at 8 (some 25) 62 #[.agg #[.int .i64 z0, .int .i64 z1, .int .i64 z2], .agg #[.int .i64 z0, .int .i64 z1, .int .i64 z2]] 1 (by kernel_rfl) (by kernel_rfl) (by kernel_rfl) (by kernel_rfl) (by kernel_rfl) ?_
      refine (eqAct_true _ _ _ _).mono ?_
      rintro e w2 ⟨rfl, hb2⟩
      replace hW := hW.trans (hb2.mono hW.size)
      clear hb2
      refine ⟨_, rfl, ⟨⟨_, hW⟩, rfl⟩, ?_⟩
      simp only [Act.put, List.setIfInBounds_toArray, List.set_cons_zero, List.set_cons_succ]
      refine seg_range [(9, 1)] 0 (by kernel_rfl) (by kernel_rfl) (by kernel_rfl) (by kernel_rfl) (by kernel_rfl) ⟨⟨_, hW⟩, rfl⟩ ?_
      simp only [pickR, List.toList_toArray, List.flatMap_cons, List.flatMap_nil, List.drop_succ_cons, List.drop_zero, List.take_succ_cons, List.take_zero, List.cons_append, List.nil_append, List.append_nil]
      repeat go_big_quiet_step (fail)
      refine wpQuiet_nil ?_
      refine text_end (by kernel_rfl) ?_
      replace hb := hb.trans (hW.mono hb.size)
      clear k0 k1 k2 l0 l1 l2 hW hne
      go_wp2
      go_roundw
      case rel => exact ⟨k + 1, by omega, by go_num, hb⟩
      case measure => simp [intOf]; omega
    · go_wp2
      go_ret
      exact ⟨rfl, hb⟩

theorem grown3 {w wr : World} {g k : Nat} {v0 v1 v2 : Value} (h : w.grownBy wr (some g)) : w.grownBy (((wr.setCell ⟨g, k, none⟩ v0).setCell ⟨g, k + 1, none⟩ v1).setCell ⟨g, k + 2, none⟩ v2) (some g) := by
  have one : ∀ (u : World) (j : Nat) (v : Value), w.grownBy u (some g) → w.grownBy (u.setCell ⟨g, j, none⟩ v) (some g) := fun u j v h =>
    ⟨h.os, h.tape, h.output, by simpa [World.setCell] using h.size, fun i hi hne => by rw [Below.heap_setCell _ _ _ _ (by intro e; apply hne; simp [e])]; exact h.block i hi hne⟩
  exact one _ _ _ (one _ _ _ (one _ _ _ h))

/-- Marks, three cells an act. -/
def actMarks (c : Int) (n : Nat) : List ActD := (List.range n).map fun (i : Nat) => ⟨c + ((i * 3 : Nat) : Int), c + ((i * 3 + 1 : Nat) : Int), c + ((i * 3 + 2 : Nat) : Int)⟩
theorem actMarks_length (c : Int) (n : Nat) : (actMarks c n).length = n := by simp [actMarks]
theorem actMarks_getD (c : Int) (n i : Nat) (h : i < n) : (actMarks c n).getD i actNo = ⟨c + ((i * 3 : Nat) : Int), c + ((i * 3 + 1 : Nat) : Int), c + ((i * 3 + 2 : Nat) : Int)⟩ := by simp [actMarks, List.getD, h]

end Go.Proofs.YtmlkfmjenkcflaaGreatDoor

/- What the helpers of the laws on transactions do: they count, copy, compare, mark, and look for marks. -/
namespace Go.Proofs.YtmlkfmjenkcflaaGreatDoor
open Go.RowKit
set_option linter.unusedVariables false
set_option maxRecDepth 100000
set_option linter.unusedSimpArgs false

theorem below_from {w W w' : World} (h : Below w.heap.size w W) (hb : Below W.heap.size W w') : Below w.heap.size w w' := h.trans (hb.mono h.size)

theorem grown_from {w W w' : World} {r : Option Nat} (h : Below w.heap.size w W) (hg : W.grownBy w' r) : w.grownBy w' r :=
  ⟨hg.os.trans h.os, hg.tape.trans h.tape, hg.output.trans h.output, Nat.le_trans h.size hg.size, fun i hi hne => (hg.block i (Nat.lt_of_lt_of_le hi h.size) hne).trans (h.block i hi)⟩

set_option maxHeartbeats 1000000 in
theorem szActS_any (a : Option Addr) (n cap : Nat) (c : Int) (w : World) (hn : n ≤ 9223372036854775807) (h0 : 0 ≤ c) (h1 : c ≤ 1099511627776) :
    Calls Tryz.prog 37 #[.slice a n cap, .int .i64 c] w fun e w' => e = .returned (.int .i64 (if c - n < 0 then -1 else c - n)) ∧ w' = w := by
  by_cases h : c - n < 0
  · rw [if_pos h]
    go_enter Tryz.func37, Tryz.ntmps37
    go_wp2
    go_ret
    exact ⟨rfl, rfl⟩
  · rw [if_neg h]
    go_enter Tryz.func37, Tryz.ntmps37
    go_wp2
    go_ret
    exact ⟨rfl, rfl⟩

set_option maxHeartbeats 1000000 in
theorem szTxn_any (i s q : Int) (a : Option Addr) (n cap : Nat) (c : Int) (w : World) (hn : n ≤ 9223372036854775807) (h0 : 0 ≤ c) (h1 : c ≤ 1099511627776) :
    Calls Tryz.prog 24 #[.agg #[.int .i64 i, .int .i64 s, .int .i64 q, .slice a n cap], .int .i64 c] w fun e w' => e = .returned (.int .i64 (if c - n < 0 then -1 else c - n)) ∧ Below w.heap.size w w' := by
  have hs := fun w => szActS_any a n cap c w hn h0 h1
  by_cases h : c - n < 0
  · rw [if_pos h] at hs ⊢
    go_enter Tryz.func24, Tryz.ntmps24
    go_wp2_with (go_at_call 37; refine (hs _).mono ?_; rintro e w' ⟨rfl, rfl⟩)
    go_ret
    exact ⟨rfl, by go_grown⟩
  · rw [if_neg h] at hs ⊢
    go_enter Tryz.func24, Tryz.ntmps24
    go_wp2_with (go_at_call 37; refine (hs _).mono ?_; rintro e w' ⟨rfl, rfl⟩)
    go_ret
    exact ⟨rfl, by go_grown⟩

set_option maxHeartbeats 1000000 in
theorem toTxn_any (i s q : Int) (a : Option Addr) (cap : Nat) (zs : List ActD) (w : World) (h : ActRow w a zs) (hl : zs.length ≤ 1048576) :
    Calls Tryz.prog 30 #[.agg #[.int .i64 i, .int .i64 s, .int .i64 q, .slice a zs.length cap]] w fun e w' => ∃ g c, e = .returned (.agg #[.int .i64 i, .int .i64 s, .int .i64 q, .slice (some ⟨g, 0, none⟩) zs.length c]) ∧
      w'.ownsRow w.heap.size 105 3 (.slice (some ⟨g, 0, none⟩) zs.length c) zs.length (actCells zs) ∧ Below w.heap.size w w' := by
  go_enter Tryz.func30, Tryz.ntmps30
  go_wp2_with (go_at_call 43; refine (toActS_any a cap zs _ (h.below (by go_grown)) hl).mono ?_; rintro e w' ⟨g, c, rfl, ho, hb⟩; obtain ⟨hc, hf⟩ := bcell hb; have hz : w.heap.size + 3 ≤ w'.heap.size := by have := hb.size; simp at this; omega)
  simp only [World.size_alloc] at ho
  refine bodyPost_ret (v := .agg #[.int .i64 i, .int .i64 s, .int .i64 q, .slice (some ⟨g, 0, none⟩) zs.length c]) (by simp [results, Tryz.results30, go_sem, hc]) rfl ⟨_, _, rfl, ?_, ?_⟩
  · refine own_base (base := w.heap.size + 1 + 1 + 1) ?_ (by omega)
    repeat' (refine ownsRow_setCell_below ?_ (by dsimp only; omega) _)
    exact ho
  · repeat' (refine Below.setCell ?_ (by dsimp only; omega) _)
    exact below_from (by go_grown) hb

set_option maxHeartbeats 1000000 in
theorem eqTxn_true (i s q : Int) (a a' : Option Addr) (cap cap' : Nat) (zs : List ActD) (w : World) (h : ActRow w a zs) (h' : ActRow w a' zs) (hl : zs.length ≤ 1099511627776) :
    Calls Tryz.prog 35 #[.agg #[.int .i64 i, .int .i64 s, .int .i64 q, .slice a zs.length cap], .agg #[.int .i64 i, .int .i64 s, .int .i64 q, .slice a' zs.length cap']] w fun e w' => e = .returned (.bool true) ∧ Below w.heap.size w w' := by
  have h0 : (i != i) = false := by simp
  have h1 : (s != s) = false := by simp
  have h2 : (q != q) = false := by simp
  go_enter Tryz.func35, Tryz.ntmps35
  go_wp2_with (go_at_call 49; refine (eqActS_true a a' cap cap' zs _ (h.below (by go_grown)) (h'.below (by go_grown)) hl).mono ?_; rintro e w' ⟨rfl, hb⟩)
  go_ret
  exact ⟨rfl, below_from (by go_grown) hb⟩

end Go.Proofs.YtmlkfmjenkcflaaGreatDoor

/- TxnFault: the program's function and its model answer alike, by one plain function. No condition. -/
namespace Go.Proofs.YtmlkfmjenkcflaaGreatDoor
open Go.RowKit
set_option linter.unusedVariables false
set_option maxRecDepth 100000
set_option linter.unusedSimpArgs false

def inW (n lo hi : Int) : Bool := decide (lo ≤ n) && decide (n ≤ hi)

def actF (x : ActD) : Int :=
  if (inW x.kind 1 4 = false) ∨ ((x.kind == 3) = true ∧ (x.val != 0) = true) then 1
  else if inW x.key 1 20 = false ∨ inW x.val (-1000) 1000 = false then 3 else 0

def actsF : List ActD → Int
  | [] => 0
  | x :: r => if actF x = 0 then actsF r else actF x

def txnF (i s q : Int) (zs : List ActD) : Int :=
  if inW i 1 200 = false ∨ inW s 1 9 = false ∨ inW q 1 99 = false then 3
  else if zs.length < 1 ∨ 4 < zs.length then 2 else actsF zs

theorem actsF_first (zs : List ActD) : ∀ k, (∀ j, j < k → actF (zs.getD j actNo) = 0) → k < zs.length → actF (zs.getD k actNo) ≠ 0 → actsF zs = actF (zs.getD k actNo) := by
  induction zs with
  | nil => intro k _ h; simp at h
  | cons x r ih =>
    intro k h0 hk hne
    cases k with
    | zero => simp [List.getD] at hne ⊢; simp [actsF, hne]
    | succ k =>
      have hx : actF x = 0 := by simpa [List.getD] using h0 0 (by omega)
      have := ih k (fun j hj => by simpa [List.getD] using h0 (j + 1) (by omega)) (by simpa using hk) (by simpa [List.getD] using hne)
      simp only [actsF, hx, if_true]
      rw [this]
      simp [List.getD]

theorem actsF_none (zs : List ActD) (h : ∀ j, j < zs.length → actF (zs.getD j actNo) = 0) : actsF zs = 0 := by
  induction zs with
  | nil => rfl
  | cons x r ih =>
    have hx : actF x = 0 := by simpa [List.getD] using h 0 (by simp)
    simp only [actsF, hx, if_true]
    exact ih (fun j hj => by simpa [List.getD] using h (j + 1) (by simpa using hj))

set_option maxHeartbeats 1000000 in
theorem isWithin_any (n lo hi : Int) (w : World) :
    Calls Tryz.prog 70 #[.int .i64 n, .int .i64 lo, .int .i64 hi] w fun e w' => e = .returned (.bool (inW n lo hi)) ∧ w' = w := by
  unfold inW
  cases h1 : decide (lo ≤ n) <;> cases h2 : decide (n ≤ hi) <;> simp only [decide_eq_true_eq, decide_eq_false_iff_not] at h1 h2 <;>
  (go_enter Tryz.func70, Tryz.ntmps70
   go_wp2
   go_ret
   exact ⟨rfl, rfl⟩)

set_option maxHeartbeats 1000000 in
theorem l1InW_any (n lo hi : Int) (w : World) :
    Calls Tryz.prog 53 #[.int .i64 n, .int .i64 lo, .int .i64 hi] w fun e w' => e = .returned (.bool (inW n lo hi)) ∧ w' = w := by
  unfold inW
  cases h1 : decide (lo ≤ n) <;> cases h2 : decide (n ≤ hi) <;> simp only [decide_eq_true_eq, decide_eq_false_iff_not] at h1 h2 <;>
  (go_enter Tryz.func53, Tryz.ntmps53
   go_wp2
   go_ret
   exact ⟨rfl, rfl⟩)

/-- The ways through an act's tests. -/
theorem actF_ways (k y v : Int) :
    (inW k 1 4 = false ∧ actF ⟨k, y, v⟩ = 1) ∨ (inW k 1 4 = true ∧ (k == 3) = true ∧ (v != 0) = true ∧ actF ⟨k, y, v⟩ = 1) ∨
    (inW k 1 4 = true ∧ (((k == 3) = true ∧ (v != 0) = false) ∨ (k == 3) = false) ∧
      ((inW y 1 20 = false ∧ actF ⟨k, y, v⟩ = 3) ∨ (inW y 1 20 = true ∧ inW v (-1000) 1000 = false ∧ actF ⟨k, y, v⟩ = 3) ∨ (inW y 1 20 = true ∧ inW v (-1000) 1000 = true ∧ actF ⟨k, y, v⟩ = 0))) := by
  unfold actF
  cases h1 : inW k 1 4 <;> cases h2 : (k == 3) <;> cases h3 : (v != 0) <;> cases h4 : inW y 1 20 <;> cases h5 : inW v (-1000) 1000 <;> simp [h1, h2, h3, h4, h5]

set_option maxHeartbeats 400000 in
theorem actFault_any (k y v : Int) (w : World) :
    Calls Tryz.prog 87 #[.agg #[.int .i64 k, .int .i64 y, .int .i64 v]] w fun e w' => e = .returned (.int .i64 (actF ⟨k, y, v⟩)) ∧ Below w.heap.size w w' := by
  rcases actF_ways k y v with ⟨h1, h⟩ | ⟨h1, h2, h3, h⟩ | ⟨h1, ⟨h2, h3⟩ | h2, ⟨h4, h⟩ | ⟨h4, h5, h⟩ | ⟨h4, h5, h⟩⟩ <;> rw [h] <;> clear h <;>
  (go_enter Tryz.func87, Tryz.ntmps87
   go_wp2_with (go_at_call 70; refine (isWithin_any _ _ _ _).mono ?_; rintro e w' ⟨rfl, rfl⟩)
   go_ret
   exact ⟨rfl, by go_grown⟩)

set_option maxHeartbeats 400000 in
theorem l2Act_any (b o : Nat) (k y v : Int) (w : World) (h0 : w.cell? ⟨b, o, none⟩ = some (.int .i64 k)) (h1 : w.cell? ⟨b, o + 1, none⟩ = some (.int .i64 y)) (h2 : w.cell? ⟨b, o + 2, none⟩ = some (.int .i64 v)) :
    Calls Tryz.prog 63 #[.pointer (some ⟨b, o, none⟩)] w fun e w' => e = .returned (.int .i64 (actF ⟨k, y, v⟩)) ∧ w' = w := by
  rcases actF_ways k y v with ⟨h1, h⟩ | ⟨h1, h2, h3, h⟩ | ⟨h1, ⟨h2, h3⟩ | h2, ⟨h4, h⟩ | ⟨h4, h5, h⟩ | ⟨h4, h5, h⟩⟩ <;> rw [h] <;> clear h <;>
  (go_enter Tryz.func63, Tryz.ntmps63
   go_wp2_with (go_at_call 53; refine (l1InW_any _ _ _ _).mono ?_; rintro e w' ⟨rfl, rfl⟩)
   go_ret
   exact ⟨rfl, rfl⟩)

end Go.Proofs.YtmlkfmjenkcflaaGreatDoor

/- TxnFault: the program's function and its model answer alike, by one plain function. No condition. -/
namespace Go.Proofs.YtmlkfmjenkcflaaGreatDoor
open Go.RowKit
set_option linter.unusedVariables false
set_option maxRecDepth 100000
set_option linter.unusedSimpArgs false

/-- The ways through a transaction's first tests. -/
theorem txnF_ways (i s q : Int) (zs : List ActD) :
    (inW i 1 200 = false ∧ txnF i s q zs = 3) ∨ (inW i 1 200 = true ∧ inW s 1 9 = false ∧ txnF i s q zs = 3) ∨ (inW i 1 200 = true ∧ inW s 1 9 = true ∧ inW q 1 99 = false ∧ txnF i s q zs = 3) ∨
    (inW i 1 200 = true ∧ inW s 1 9 = true ∧ inW q 1 99 = true ∧ ((zs.length < 1 ∧ txnF i s q zs = 2) ∨ (4 < zs.length ∧ txnF i s q zs = 2) ∨ (¬ zs.length < 1 ∧ ¬ 4 < zs.length ∧ txnF i s q zs = actsF zs))) := by
  unfold txnF
  cases h1 : inW i 1 200 <;> cases h2 : inW s 1 9 <;> cases h3 : inW q 1 99 <;> simp only [Bool.false_eq_true, Bool.true_eq_false, reduceCtorEq, if_true, if_false, false_or, or_false, true_or, or_true, false_and, true_and, and_true, and_false]
  by_cases h4 : zs.length < 1 <;> by_cases h5 : 4 < zs.length <;> simp only [h4, h5, if_true, if_false, or_true, true_or, or_false, false_or, not_true_eq_false, not_false_eq_true, false_and, true_and, and_self]

set_option maxHeartbeats 400000 in
theorem txnFault_any (i s q : Int) (a : Option Addr) (cap : Nat) (zs : List ActD) (w : World) (h : ActRow w a zs) (hl : zs.length ≤ 1048576) :
    Calls Tryz.prog 79 #[.agg #[.int .i64 i, .int .i64 s, .int .i64 q, .slice a zs.length cap]] w fun e w' => e = .returned (.int .i64 (txnF i s q zs)) ∧ Below w.heap.size w w' := by
  rcases txnF_ways i s q zs with ⟨h1, h⟩ | ⟨h1, h2, h⟩ | ⟨h1, h2, h3, h⟩ | ⟨h1, h2, h3, ⟨h4, h⟩ | ⟨h4, h⟩ | ⟨h4, h5, hf⟩⟩
  all_goals try
    (rw [h]; clear h
     go_enter Tryz.func79, Tryz.ntmps79
     go_wp2_with (go_at_call 70; refine (isWithin_any _ _ _ _).mono ?_; rintro e w' ⟨rfl, rfl⟩)
     go_ret
     exact ⟨rfl, by go_grown⟩)
  rw [hf]
  clear hf
  go_enter Tryz.func79, Tryz.ntmps79
  go_wp2_with (go_at_call 70; refine (isWithin_any _ _ _ _).mono ?_; rintro e w' ⟨rfl, rfl⟩)
  go_loopw [35] (fun j wr => ∃ k : Nat, k ≤ zs.length ∧ j = .int .i64 k ∧ Below w.heap.size w wr ∧ Hid (∀ j, j < k → actF (zs.getD j actNo) = 0)) (fun j _ => zs.length - (intOf j).toNat)
  case atStart => exact ⟨0, Nat.zero_le _, rfl, by go_grown, fun j hj => absurd hj (Nat.not_lt_zero _)⟩
  case round =>
    obtain ⟨k, hk, rfl, hb, HA⟩ := hrel
    by_cases hlt : k < zs.length
    · obtain ⟨b, off, rfl, hbs, hc0, hc1, hc2⟩ := (h.below hb).at k hlt
      have hsz := hb.size
      by_cases hF : actF (zs.getD k actNo) = 0
      · have HB : Hid (∀ j, j < k + 1 → actF (zs.getD j actNo) = 0) := by
          intro j hj
          by_cases hjk : j = k
          · subst hjk; exact hF
          · exact HA.out j (by omega)
        have hcall := actFault_any (zs.getD k actNo).kind (zs.getD k actNo).key (zs.getD k actNo).val
        rw [show actF ⟨(zs.getD k actNo).kind, (zs.getD k actNo).key, (zs.getD k actNo).val⟩ = 0 from hF] at hcall
        clear HA hF
        generalize zs.getD k actNo = z at hc0 hc1 hc2 hcall
        go_wp2_with (go_at_call 87; refine (hcall _).mono ?_; rintro e w' ⟨rfl, hb2⟩)
        go_roundw
        case rel => exact ⟨k + 1, by omega, by go_num, below_from (by go_grown) hb2, HB⟩
        case measure => simp [intOf]; omega
      · have E : Hid (actsF zs = actF (zs.getD k actNo)) := actsF_first zs k HA.out hlt hF
        have hcall := actFault_any (zs.getD k actNo).kind (zs.getD k actNo).key (zs.getD k actNo).val
        have hne : (actF (zs.getD k actNo) != 0) = true := by simpa using hF
        change ∀ w, Calls _ _ _ w fun e w' => e = .returned (.int .i64 (actF (zs.getD k actNo))) ∧ _ at hcall
        clear HA hF
        generalize actF (zs.getD k actNo) = r at hcall E hne
        generalize zs.getD k actNo = z at hc0 hc1 hc2 hcall
        go_wp2_with (go_at_call 87; refine (hcall _).mono ?_; rintro e w' ⟨rfl, hb2⟩)
        go_ret
        rw [E.out]
        exact ⟨rfl, below_from (by go_grown) hb2⟩
    · have hkl : k = zs.length := by omega
      subst hkl
      have E : Hid (actsF zs = 0) := actsF_none zs HA.out
      clear HA
      go_wp2
      go_ret
      rw [E.out]
      exact ⟨rfl, hb⟩

/-- A transaction in a box of four cells. -/
structure Box4 (w : World) (b o : Nat) (x0 x1 x2 x3 : Value) : Prop where
  c0 : w.cell? ⟨b, o, none⟩ = some x0
  c1 : w.cell? ⟨b, o + 1, none⟩ = some x1
  c2 : w.cell? ⟨b, o + 2, none⟩ = some x2
  c3 : w.cell? ⟨b, o + 3, none⟩ = some x3

theorem Box4.below {w w' : World} {b o : Nat} {x0 x1 x2 x3 : Value} (h : Box4 w b o x0 x1 x2 x3) (hb : Below w.heap.size w w') : Box4 w' b o x0 x1 x2 x3 := by
  have hlt : b < w.heap.size := World.block_lt_of_cell? w ⟨b, o, none⟩ h.c0
  exact ⟨by rw [hb.cell (p := ⟨b, o, none⟩) hlt]; exact h.c0, by rw [hb.cell (p := ⟨b, o + 1, none⟩) hlt]; exact h.c1, by rw [hb.cell (p := ⟨b, o + 2, none⟩) hlt]; exact h.c2, by rw [hb.cell (p := ⟨b, o + 3, none⟩) hlt]; exact h.c3⟩

set_option maxHeartbeats 400000 in
theorem l2Fault_any (b o : Nat) (i s q : Int) (a : Option Addr) (cap : Nat) (zs : List ActD) (w : World) (hB : Box4 w b o (.int .i64 i) (.int .i64 s) (.int .i64 q) (.slice a zs.length cap)) (h : ActRow w a zs) (hl : zs.length ≤ 1048576) :
    Calls Tryz.prog 50 #[.pointer (some ⟨b, o, none⟩)] w fun e w' => e = .returned (.int .i64 (txnF i s q zs)) ∧ w' = w := by
  obtain ⟨b0, b1, b2, b3⟩ := hB
  rcases txnF_ways i s q zs with ⟨h1, h⟩ | ⟨h1, h2, h⟩ | ⟨h1, h2, h3, h⟩ | ⟨h1, h2, h3, ⟨h4, h⟩ | ⟨h4, h⟩ | ⟨h4, h5, hf⟩⟩
  all_goals try
    (rw [h]; clear h
     go_enter Tryz.func50, Tryz.ntmps50
     go_wp2_with (go_at_call 53; refine (l1InW_any _ _ _ _).mono ?_; rintro e w' ⟨rfl, rfl⟩)
     go_ret
     exact ⟨rfl, rfl⟩)
  rw [hf]
  clear hf
  go_enter Tryz.func50, Tryz.ntmps50
  go_wp2_with (go_at_call 53; refine (l1InW_any _ _ _ _).mono ?_; rintro e w' ⟨rfl, rfl⟩)
  clear b0 b1 b2
  go_loop [3] (fun j => ∃ k : Nat, k ≤ zs.length ∧ j = .int .i64 k ∧ Hid (∀ j, j < k → actF (zs.getD j actNo) = 0)) (fun j => zs.length - (intOf j).toNat)
  case atStart => exact ⟨0, Nat.zero_le _, rfl, fun j hj => absurd hj (Nat.not_lt_zero _)⟩
  case round =>
    obtain ⟨k, hk, rfl, HA⟩ := hrel
    by_cases hlt : k < zs.length
    · obtain ⟨b', off, rfl, hbs, hc0, hc1, hc2⟩ := h.at k hlt
      by_cases hF : actF (zs.getD k actNo) = 0
      · have HB : Hid (∀ j, j < k + 1 → actF (zs.getD j actNo) = 0) := by
          intro j hj
          by_cases hjk : j = k
          · subst hjk; exact hF
          · exact HA.out j (by omega)
        have hcall := l2Act_any b' (off + k * 3) (zs.getD k actNo).kind (zs.getD k actNo).key (zs.getD k actNo).val _ hc0 hc1 hc2
        rw [show actF ⟨(zs.getD k actNo).kind, (zs.getD k actNo).key, (zs.getD k actNo).val⟩ = 0 from hF] at hcall
        clear HA hF hc0 hc1 hc2
        go_wp2_with (go_at_call 63; refine hcall.mono ?_; rintro e w' ⟨rfl, rfl⟩)
        go_round
        case rel => exact ⟨k + 1, by omega, by go_num, HB⟩
        case measure => simp [intOf]; omega
      · have E : Hid (actsF zs = actF (zs.getD k actNo)) := actsF_first zs k HA.out hlt hF
        have hcall := l2Act_any b' (off + k * 3) (zs.getD k actNo).kind (zs.getD k actNo).key (zs.getD k actNo).val _ hc0 hc1 hc2
        have hne : (actF (zs.getD k actNo) != 0) = true := by simpa using hF
        change Calls _ _ _ _ fun e w' => e = .returned (.int .i64 (actF (zs.getD k actNo))) ∧ _ at hcall
        clear HA hF hc0 hc1 hc2
        generalize actF (zs.getD k actNo) = r at hcall E hne
        go_wp2_with (go_at_call 63; refine hcall.mono ?_; rintro e w' ⟨rfl, rfl⟩)
        go_ret
        rw [E.out]
        exact ⟨rfl, rfl⟩
    · have hkl : k = zs.length := by omega
      subst hkl
      have E : Hid (actsF zs = 0) := actsF_none zs HA.out
      clear HA
      go_wp2
      go_ret
      rw [E.out]
      exact ⟨rfl, rfl⟩

theorem box4_new (w : World) (x0 x1 x2 x3 : Value) (t : TypeId) : Box4 (w.alloc (.cells #[x0, x1, x2, x3] t)) w.heap.size 0 x0 x1 x2 x3 := ⟨by simp, by simp, by simp, by simp⟩

theorem Box4.zero {w : World} {b : Nat} {x0 x1 x2 x3 : Value} (h : Box4 w b 0 x0 x1 x2 x3) : w.cell? ⟨b, 0, none⟩ = some x0 ∧ w.cell? ⟨b, 1, none⟩ = some x1 ∧ w.cell? ⟨b, 2, none⟩ = some x2 ∧ w.cell? ⟨b, 3, none⟩ = some x3 :=
  ⟨h.c0, by simpa using h.c1, by simpa using h.c2, by simpa using h.c3⟩

theorem Box4.lat {w : World} {b : Nat} {x0 x1 x2 x3 : Value} (h : Box4 w b 0 x0 x1 x2 x3) : (∀ u : Lat w, u.val.cell? ⟨b, 0, none⟩ = some x0) ∧ (∀ u : Lat w, u.val.cell? ⟨b, 1, none⟩ = some x1) ∧ (∀ u : Lat w, u.val.cell? ⟨b, 2, none⟩ = some x2) ∧ (∀ u : Lat w, u.val.cell? ⟨b, 3, none⟩ = some x3) :=
  ⟨lat_cell h.zero.1, lat_cell h.zero.2.1, lat_cell h.zero.2.2.1, lat_cell h.zero.2.2.2⟩

end Go.Proofs.YtmlkfmjenkcflaaGreatDoor

/- A block that is known whole, and how it lasts. No condition. -/
namespace Go.Proofs.YtmlkfmjenkcflaaGreatDoor
open Go.RowKit
set_option linter.unusedVariables false
set_option maxRecDepth 100000
set_option linter.unusedSimpArgs false

/-- Block b holds just these cells. -/
def Blk (w : World) (b : Nat) (t : TypeId) (cs : Array Value) : Prop := w.heap[b]? = some (.cells cs t (0, 0))

theorem Blk.lt {w : World} {b : Nat} {t : TypeId} {cs : Array Value} (h : Blk w b t cs) : b < w.heap.size := (Array.getElem?_eq_some_iff.1 h).1
theorem Blk.new (w : World) (t : TypeId) (cs : Array Value) : Blk (w.alloc (.cells cs t)) w.heap.size t cs := by
  show (w.heap.push _)[w.heap.size]? = _
  simp
theorem Blk.below {w w' : World} {b : Nat} {t : TypeId} {cs : Array Value} (h : Blk w b t cs) (hb : Below w.heap.size w w') : Blk w' b t cs := (hb.block b h.lt).trans h
theorem Blk.grown {w w' : World} {b : Nat} {t : TypeId} {cs : Array Value} {row : Option Nat} (h : Blk w b t cs) (hg : w.grownBy w' row) (hne : some b ≠ row) : Blk w' b t cs := (hg.block b h.lt hne).trans h
theorem Blk.cell {w : World} {b : Nat} {t : TypeId} {cs : Array Value} (h : Blk w b t cs) (j : Nat) (x : Value) (hx : cs[j]? = some x) : w.cell? ⟨b, j, none⟩ = some x := by
  unfold Blk at h
  simp [World.cell?, h, hx]
theorem Blk.frozen {w : World} {b : Nat} {t : TypeId} {cs : Array Value} (h : Blk w b t cs) (j : Nat) : w.frozen? ⟨b, j, none⟩ = false := by
  unfold Blk at h
  simp [World.frozen?, h]
theorem Blk.lat {w : World} {b : Nat} {t : TypeId} {cs : Array Value} (h : Blk w b t cs) (j : Nat) (x : Value) (hx : cs[j]? = some x) : ∀ u : Lat w, u.val.cell? ⟨b, j, none⟩ = some x := lat_cell (h.cell j x hx)

/-- Only blocks from lo up to hi have turned, of those that were there. -/
structure Only (lo hi : Nat) (w w' : World) : Prop where
  os : w'.os = w.os
  tape : w'.tape = w.tape
  output : w'.output = w.output
  size : w.heap.size ≤ w'.heap.size
  block : ∀ k, k < w.heap.size → (k < lo ∨ hi ≤ k) → w'.heap[k]? = w.heap[k]?

theorem only_of_grown {w w' : World} {row : Option Nat} {lo hi : Nat} (hg : w.grownBy w' row) (h : ∀ g, row = some g → lo ≤ g ∧ g < hi) : Only lo hi w w' :=
  ⟨hg.os, hg.tape, hg.output, hg.size, fun k hk hc => hg.block k hk (fun e => by have := h k e.symm; omega)⟩

theorem Only.refl (lo hi : Nat) (w : World) : Only lo hi w w := ⟨rfl, rfl, rfl, Nat.le_refl _, fun _ _ _ => rfl⟩
theorem Only.trans {lo hi : Nat} {a b c : World} (h : Only lo hi a b) (k : Only lo hi b c) : Only lo hi a c :=
  ⟨k.os.trans h.os, k.tape.trans h.tape, k.output.trans h.output, Nat.le_trans h.size k.size, fun i hi hc => (k.block i (Nat.lt_of_lt_of_le hi h.size) hc).trans (h.block i hi hc)⟩
theorem Only.of_below {lo hi : Nat} {w w' : World} (h : Below w.heap.size w w') : Only lo hi w w' := ⟨h.os, h.tape, h.output, h.size, fun k hk _ => h.block k hk⟩
theorem below_only {B lo hi : Nat} {a w w' : World} (h : Below B a w) (ho : Only lo hi w w') (hB : B ≤ lo) (hs : B ≤ w.heap.size) : Below B a w' :=
  ⟨ho.os.trans h.os, ho.tape.trans h.tape, ho.output.trans h.output, Nat.le_trans h.size ho.size, fun k hk => (ho.block k (by omega) (Or.inl (by omega))).trans (h.block k hk)⟩
theorem own_only {w w' : World} {lo hi base e size n : Nat} {v : Value} {xs : List Value} (h : w.ownsRow base e size v n xs) (ho : Only lo hi w w') (hb : hi ≤ base) : w'.ownsRow base e size v n xs := by
  refine ⟨h.1, ?_⟩
  rcases h.2 with h2 | ⟨g, cap, cur, hv, hg, hh, r⟩
  · exact Or.inl h2
  · exact Or.inr ⟨g, cap, cur, hv, hg, by rw [ho.block g (Array.getElem?_eq_some_iff.1 hh).1 (Or.inr (by omega))]; exact hh, r⟩
theorem blk_only {w w' : World} {lo hi b : Nat} {t : TypeId} {cs : Array Value} (h : Blk w b t cs) (ho : Only lo hi w w') (hb : hi ≤ b) : Blk w' b t cs := (ho.block b h.lt (Or.inr hb)).trans h

theorem own_apart3 {w w' : World} {base base' e e' n n' s s' : Nat} {v v' : Value} {xs xs' : List Value} (h : w.ownsRow base e s v n xs) (h' : w'.ownsRow base' e' s' v' n' xs') (hb : w.heap.size ≤ base') : v.ownBlock = none ∨ v.ownBlock ≠ v'.ownBlock := by
  cases hv : v.ownBlock with
  | none => exact Or.inl rfl
  | some g =>
    right
    intro e
    have h1 := (h.lt g hv).2
    have h2 := (h'.lt g e.symm).1
    omega

theorem own_apart3' {w w' : World} {base base' e e' n n' s s' : Nat} {v v' : Value} {xs xs' : List Value} (h : w.ownsRow base e s v n xs) (h' : w'.ownsRow base' e' s' v' n' xs') (hb : w.heap.size ≤ base') : v'.ownBlock = none ∨ v'.ownBlock ≠ v.ownBlock := by
  rcases own_apart3 h h' hb with e | e
  · cases hv : v'.ownBlock with
    | none => exact Or.inl rfl
    | some g => right; rw [e]; simp
  · exact Or.inr (fun k => e k.symm)

theorem own_not3 {w : World} {base e n b s : Nat} {v : Value} {xs : List Value} (h : w.ownsRow base e s v n xs) (hb : b < base ∨ w.heap.size ≤ b) : some b ≠ v.ownBlock := by
  intro e
  have h1 := h.lt b e.symm
  omega

theorem Blk.cel2 {w : World} {b : Nat} {t : TypeId} {x0 x1 : Value} {r : List Value} (h : Blk w b t (x0 :: x1 :: r).toArray) : w.cell? ⟨b, 0, none⟩ = some x0 ∧ w.cell? ⟨b, 1, none⟩ = some x1 :=
  ⟨h.cell 0 _ rfl, h.cell 1 _ rfl⟩

theorem Blk.lts2 {w : World} {b : Nat} {t : TypeId} {x0 x1 : Value} {r : List Value} (h : Blk w b t (x0 :: x1 :: r).toArray) : (∀ u : Lat w, u.val.cell? ⟨b, 0, none⟩ = some x0) ∧ (∀ u : Lat w, u.val.cell? ⟨b, 1, none⟩ = some x1) :=
  ⟨h.lat 0 _ rfl, h.lat 1 _ rfl⟩

theorem Blk.frz2 {w : World} {b : Nat} {t : TypeId} {cs : Array Value} (h : Blk w b t cs) : w.frozen? ⟨b, 0, none⟩ = false ∧ w.frozen? ⟨b, 1, none⟩ = false :=
  ⟨h.frozen 0, h.frozen 1⟩

theorem Blk.cel3 {w : World} {b : Nat} {t : TypeId} {x0 x1 x2 : Value} {r : List Value} (h : Blk w b t (x0 :: x1 :: x2 :: r).toArray) : w.cell? ⟨b, 0, none⟩ = some x0 ∧ w.cell? ⟨b, 1, none⟩ = some x1 ∧ w.cell? ⟨b, 2, none⟩ = some x2 :=
  ⟨h.cell 0 _ rfl, h.cell 1 _ rfl, h.cell 2 _ rfl⟩

theorem Blk.lts3 {w : World} {b : Nat} {t : TypeId} {x0 x1 x2 : Value} {r : List Value} (h : Blk w b t (x0 :: x1 :: x2 :: r).toArray) : (∀ u : Lat w, u.val.cell? ⟨b, 0, none⟩ = some x0) ∧ (∀ u : Lat w, u.val.cell? ⟨b, 1, none⟩ = some x1) ∧ (∀ u : Lat w, u.val.cell? ⟨b, 2, none⟩ = some x2) :=
  ⟨h.lat 0 _ rfl, h.lat 1 _ rfl, h.lat 2 _ rfl⟩

theorem Blk.frz3 {w : World} {b : Nat} {t : TypeId} {cs : Array Value} (h : Blk w b t cs) : w.frozen? ⟨b, 0, none⟩ = false ∧ w.frozen? ⟨b, 1, none⟩ = false ∧ w.frozen? ⟨b, 2, none⟩ = false :=
  ⟨h.frozen 0, h.frozen 1, h.frozen 2⟩

theorem Blk.cel4 {w : World} {b : Nat} {t : TypeId} {x0 x1 x2 x3 : Value} {r : List Value} (h : Blk w b t (x0 :: x1 :: x2 :: x3 :: r).toArray) : w.cell? ⟨b, 0, none⟩ = some x0 ∧ w.cell? ⟨b, 1, none⟩ = some x1 ∧ w.cell? ⟨b, 2, none⟩ = some x2 ∧ w.cell? ⟨b, 3, none⟩ = some x3 :=
  ⟨h.cell 0 _ rfl, h.cell 1 _ rfl, h.cell 2 _ rfl, h.cell 3 _ rfl⟩

theorem Blk.lts4 {w : World} {b : Nat} {t : TypeId} {x0 x1 x2 x3 : Value} {r : List Value} (h : Blk w b t (x0 :: x1 :: x2 :: x3 :: r).toArray) : (∀ u : Lat w, u.val.cell? ⟨b, 0, none⟩ = some x0) ∧ (∀ u : Lat w, u.val.cell? ⟨b, 1, none⟩ = some x1) ∧ (∀ u : Lat w, u.val.cell? ⟨b, 2, none⟩ = some x2) ∧ (∀ u : Lat w, u.val.cell? ⟨b, 3, none⟩ = some x3) :=
  ⟨h.lat 0 _ rfl, h.lat 1 _ rfl, h.lat 2 _ rfl, h.lat 3 _ rfl⟩

theorem Blk.frz4 {w : World} {b : Nat} {t : TypeId} {cs : Array Value} (h : Blk w b t cs) : w.frozen? ⟨b, 0, none⟩ = false ∧ w.frozen? ⟨b, 1, none⟩ = false ∧ w.frozen? ⟨b, 2, none⟩ = false ∧ w.frozen? ⟨b, 3, none⟩ = false :=
  ⟨h.frozen 0, h.frozen 1, h.frozen 2, h.frozen 3⟩

theorem Blk.cel5 {w : World} {b : Nat} {t : TypeId} {x0 x1 x2 x3 x4 : Value} {r : List Value} (h : Blk w b t (x0 :: x1 :: x2 :: x3 :: x4 :: r).toArray) : w.cell? ⟨b, 0, none⟩ = some x0 ∧ w.cell? ⟨b, 1, none⟩ = some x1 ∧ w.cell? ⟨b, 2, none⟩ = some x2 ∧ w.cell? ⟨b, 3, none⟩ = some x3 ∧ w.cell? ⟨b, 4, none⟩ = some x4 :=
  ⟨h.cell 0 _ rfl, h.cell 1 _ rfl, h.cell 2 _ rfl, h.cell 3 _ rfl, h.cell 4 _ rfl⟩

theorem Blk.lts5 {w : World} {b : Nat} {t : TypeId} {x0 x1 x2 x3 x4 : Value} {r : List Value} (h : Blk w b t (x0 :: x1 :: x2 :: x3 :: x4 :: r).toArray) : (∀ u : Lat w, u.val.cell? ⟨b, 0, none⟩ = some x0) ∧ (∀ u : Lat w, u.val.cell? ⟨b, 1, none⟩ = some x1) ∧ (∀ u : Lat w, u.val.cell? ⟨b, 2, none⟩ = some x2) ∧ (∀ u : Lat w, u.val.cell? ⟨b, 3, none⟩ = some x3) ∧ (∀ u : Lat w, u.val.cell? ⟨b, 4, none⟩ = some x4) :=
  ⟨h.lat 0 _ rfl, h.lat 1 _ rfl, h.lat 2 _ rfl, h.lat 3 _ rfl, h.lat 4 _ rfl⟩

theorem Blk.frz5 {w : World} {b : Nat} {t : TypeId} {cs : Array Value} (h : Blk w b t cs) : w.frozen? ⟨b, 0, none⟩ = false ∧ w.frozen? ⟨b, 1, none⟩ = false ∧ w.frozen? ⟨b, 2, none⟩ = false ∧ w.frozen? ⟨b, 3, none⟩ = false ∧ w.frozen? ⟨b, 4, none⟩ = false :=
  ⟨h.frozen 0, h.frozen 1, h.frozen 2, h.frozen 3, h.frozen 4⟩

theorem Blk.cel6 {w : World} {b : Nat} {t : TypeId} {x0 x1 x2 x3 x4 x5 : Value} {r : List Value} (h : Blk w b t (x0 :: x1 :: x2 :: x3 :: x4 :: x5 :: r).toArray) : w.cell? ⟨b, 0, none⟩ = some x0 ∧ w.cell? ⟨b, 1, none⟩ = some x1 ∧ w.cell? ⟨b, 2, none⟩ = some x2 ∧ w.cell? ⟨b, 3, none⟩ = some x3 ∧ w.cell? ⟨b, 4, none⟩ = some x4 ∧ w.cell? ⟨b, 5, none⟩ = some x5 :=
  ⟨h.cell 0 _ rfl, h.cell 1 _ rfl, h.cell 2 _ rfl, h.cell 3 _ rfl, h.cell 4 _ rfl, h.cell 5 _ rfl⟩

theorem Blk.lts6 {w : World} {b : Nat} {t : TypeId} {x0 x1 x2 x3 x4 x5 : Value} {r : List Value} (h : Blk w b t (x0 :: x1 :: x2 :: x3 :: x4 :: x5 :: r).toArray) : (∀ u : Lat w, u.val.cell? ⟨b, 0, none⟩ = some x0) ∧ (∀ u : Lat w, u.val.cell? ⟨b, 1, none⟩ = some x1) ∧ (∀ u : Lat w, u.val.cell? ⟨b, 2, none⟩ = some x2) ∧ (∀ u : Lat w, u.val.cell? ⟨b, 3, none⟩ = some x3) ∧ (∀ u : Lat w, u.val.cell? ⟨b, 4, none⟩ = some x4) ∧ (∀ u : Lat w, u.val.cell? ⟨b, 5, none⟩ = some x5) :=
  ⟨h.lat 0 _ rfl, h.lat 1 _ rfl, h.lat 2 _ rfl, h.lat 3 _ rfl, h.lat 4 _ rfl, h.lat 5 _ rfl⟩

theorem Blk.frz6 {w : World} {b : Nat} {t : TypeId} {cs : Array Value} (h : Blk w b t cs) : w.frozen? ⟨b, 0, none⟩ = false ∧ w.frozen? ⟨b, 1, none⟩ = false ∧ w.frozen? ⟨b, 2, none⟩ = false ∧ w.frozen? ⟨b, 3, none⟩ = false ∧ w.frozen? ⟨b, 4, none⟩ = false ∧ w.frozen? ⟨b, 5, none⟩ = false :=
  ⟨h.frozen 0, h.frozen 1, h.frozen 2, h.frozen 3, h.frozen 4, h.frozen 5⟩

theorem Blk.cel7 {w : World} {b : Nat} {t : TypeId} {x0 x1 x2 x3 x4 x5 x6 : Value} {r : List Value} (h : Blk w b t (x0 :: x1 :: x2 :: x3 :: x4 :: x5 :: x6 :: r).toArray) : w.cell? ⟨b, 0, none⟩ = some x0 ∧ w.cell? ⟨b, 1, none⟩ = some x1 ∧ w.cell? ⟨b, 2, none⟩ = some x2 ∧ w.cell? ⟨b, 3, none⟩ = some x3 ∧ w.cell? ⟨b, 4, none⟩ = some x4 ∧ w.cell? ⟨b, 5, none⟩ = some x5 ∧ w.cell? ⟨b, 6, none⟩ = some x6 :=
  ⟨h.cell 0 _ rfl, h.cell 1 _ rfl, h.cell 2 _ rfl, h.cell 3 _ rfl, h.cell 4 _ rfl, h.cell 5 _ rfl, h.cell 6 _ rfl⟩

theorem Blk.lts7 {w : World} {b : Nat} {t : TypeId} {x0 x1 x2 x3 x4 x5 x6 : Value} {r : List Value} (h : Blk w b t (x0 :: x1 :: x2 :: x3 :: x4 :: x5 :: x6 :: r).toArray) : (∀ u : Lat w, u.val.cell? ⟨b, 0, none⟩ = some x0) ∧ (∀ u : Lat w, u.val.cell? ⟨b, 1, none⟩ = some x1) ∧ (∀ u : Lat w, u.val.cell? ⟨b, 2, none⟩ = some x2) ∧ (∀ u : Lat w, u.val.cell? ⟨b, 3, none⟩ = some x3) ∧ (∀ u : Lat w, u.val.cell? ⟨b, 4, none⟩ = some x4) ∧ (∀ u : Lat w, u.val.cell? ⟨b, 5, none⟩ = some x5) ∧ (∀ u : Lat w, u.val.cell? ⟨b, 6, none⟩ = some x6) :=
  ⟨h.lat 0 _ rfl, h.lat 1 _ rfl, h.lat 2 _ rfl, h.lat 3 _ rfl, h.lat 4 _ rfl, h.lat 5 _ rfl, h.lat 6 _ rfl⟩

theorem Blk.frz7 {w : World} {b : Nat} {t : TypeId} {cs : Array Value} (h : Blk w b t cs) : w.frozen? ⟨b, 0, none⟩ = false ∧ w.frozen? ⟨b, 1, none⟩ = false ∧ w.frozen? ⟨b, 2, none⟩ = false ∧ w.frozen? ⟨b, 3, none⟩ = false ∧ w.frozen? ⟨b, 4, none⟩ = false ∧ w.frozen? ⟨b, 5, none⟩ = false ∧ w.frozen? ⟨b, 6, none⟩ = false :=
  ⟨h.frozen 0, h.frozen 1, h.frozen 2, h.frozen 3, h.frozen 4, h.frozen 5, h.frozen 6⟩

theorem Blk.cel8 {w : World} {b : Nat} {t : TypeId} {x0 x1 x2 x3 x4 x5 x6 x7 : Value} {r : List Value} (h : Blk w b t (x0 :: x1 :: x2 :: x3 :: x4 :: x5 :: x6 :: x7 :: r).toArray) : w.cell? ⟨b, 0, none⟩ = some x0 ∧ w.cell? ⟨b, 1, none⟩ = some x1 ∧ w.cell? ⟨b, 2, none⟩ = some x2 ∧ w.cell? ⟨b, 3, none⟩ = some x3 ∧ w.cell? ⟨b, 4, none⟩ = some x4 ∧ w.cell? ⟨b, 5, none⟩ = some x5 ∧ w.cell? ⟨b, 6, none⟩ = some x6 ∧ w.cell? ⟨b, 7, none⟩ = some x7 :=
  ⟨h.cell 0 _ rfl, h.cell 1 _ rfl, h.cell 2 _ rfl, h.cell 3 _ rfl, h.cell 4 _ rfl, h.cell 5 _ rfl, h.cell 6 _ rfl, h.cell 7 _ rfl⟩

theorem Blk.lts8 {w : World} {b : Nat} {t : TypeId} {x0 x1 x2 x3 x4 x5 x6 x7 : Value} {r : List Value} (h : Blk w b t (x0 :: x1 :: x2 :: x3 :: x4 :: x5 :: x6 :: x7 :: r).toArray) : (∀ u : Lat w, u.val.cell? ⟨b, 0, none⟩ = some x0) ∧ (∀ u : Lat w, u.val.cell? ⟨b, 1, none⟩ = some x1) ∧ (∀ u : Lat w, u.val.cell? ⟨b, 2, none⟩ = some x2) ∧ (∀ u : Lat w, u.val.cell? ⟨b, 3, none⟩ = some x3) ∧ (∀ u : Lat w, u.val.cell? ⟨b, 4, none⟩ = some x4) ∧ (∀ u : Lat w, u.val.cell? ⟨b, 5, none⟩ = some x5) ∧ (∀ u : Lat w, u.val.cell? ⟨b, 6, none⟩ = some x6) ∧ (∀ u : Lat w, u.val.cell? ⟨b, 7, none⟩ = some x7) :=
  ⟨h.lat 0 _ rfl, h.lat 1 _ rfl, h.lat 2 _ rfl, h.lat 3 _ rfl, h.lat 4 _ rfl, h.lat 5 _ rfl, h.lat 6 _ rfl, h.lat 7 _ rfl⟩

theorem Blk.frz8 {w : World} {b : Nat} {t : TypeId} {cs : Array Value} (h : Blk w b t cs) : w.frozen? ⟨b, 0, none⟩ = false ∧ w.frozen? ⟨b, 1, none⟩ = false ∧ w.frozen? ⟨b, 2, none⟩ = false ∧ w.frozen? ⟨b, 3, none⟩ = false ∧ w.frozen? ⟨b, 4, none⟩ = false ∧ w.frozen? ⟨b, 5, none⟩ = false ∧ w.frozen? ⟨b, 6, none⟩ = false ∧ w.frozen? ⟨b, 7, none⟩ = false :=
  ⟨h.frozen 0, h.frozen 1, h.frozen 2, h.frozen 3, h.frozen 4, h.frozen 5, h.frozen 6, h.frozen 7⟩

theorem Blk.cel9 {w : World} {b : Nat} {t : TypeId} {x0 x1 x2 x3 x4 x5 x6 x7 x8 : Value} {r : List Value} (h : Blk w b t (x0 :: x1 :: x2 :: x3 :: x4 :: x5 :: x6 :: x7 :: x8 :: r).toArray) : w.cell? ⟨b, 0, none⟩ = some x0 ∧ w.cell? ⟨b, 1, none⟩ = some x1 ∧ w.cell? ⟨b, 2, none⟩ = some x2 ∧ w.cell? ⟨b, 3, none⟩ = some x3 ∧ w.cell? ⟨b, 4, none⟩ = some x4 ∧ w.cell? ⟨b, 5, none⟩ = some x5 ∧ w.cell? ⟨b, 6, none⟩ = some x6 ∧ w.cell? ⟨b, 7, none⟩ = some x7 ∧ w.cell? ⟨b, 8, none⟩ = some x8 :=
  ⟨h.cell 0 _ rfl, h.cell 1 _ rfl, h.cell 2 _ rfl, h.cell 3 _ rfl, h.cell 4 _ rfl, h.cell 5 _ rfl, h.cell 6 _ rfl, h.cell 7 _ rfl, h.cell 8 _ rfl⟩

theorem Blk.lts9 {w : World} {b : Nat} {t : TypeId} {x0 x1 x2 x3 x4 x5 x6 x7 x8 : Value} {r : List Value} (h : Blk w b t (x0 :: x1 :: x2 :: x3 :: x4 :: x5 :: x6 :: x7 :: x8 :: r).toArray) : (∀ u : Lat w, u.val.cell? ⟨b, 0, none⟩ = some x0) ∧ (∀ u : Lat w, u.val.cell? ⟨b, 1, none⟩ = some x1) ∧ (∀ u : Lat w, u.val.cell? ⟨b, 2, none⟩ = some x2) ∧ (∀ u : Lat w, u.val.cell? ⟨b, 3, none⟩ = some x3) ∧ (∀ u : Lat w, u.val.cell? ⟨b, 4, none⟩ = some x4) ∧ (∀ u : Lat w, u.val.cell? ⟨b, 5, none⟩ = some x5) ∧ (∀ u : Lat w, u.val.cell? ⟨b, 6, none⟩ = some x6) ∧ (∀ u : Lat w, u.val.cell? ⟨b, 7, none⟩ = some x7) ∧ (∀ u : Lat w, u.val.cell? ⟨b, 8, none⟩ = some x8) :=
  ⟨h.lat 0 _ rfl, h.lat 1 _ rfl, h.lat 2 _ rfl, h.lat 3 _ rfl, h.lat 4 _ rfl, h.lat 5 _ rfl, h.lat 6 _ rfl, h.lat 7 _ rfl, h.lat 8 _ rfl⟩

theorem Blk.frz9 {w : World} {b : Nat} {t : TypeId} {cs : Array Value} (h : Blk w b t cs) : w.frozen? ⟨b, 0, none⟩ = false ∧ w.frozen? ⟨b, 1, none⟩ = false ∧ w.frozen? ⟨b, 2, none⟩ = false ∧ w.frozen? ⟨b, 3, none⟩ = false ∧ w.frozen? ⟨b, 4, none⟩ = false ∧ w.frozen? ⟨b, 5, none⟩ = false ∧ w.frozen? ⟨b, 6, none⟩ = false ∧ w.frozen? ⟨b, 7, none⟩ = false ∧ w.frozen? ⟨b, 8, none⟩ = false :=
  ⟨h.frozen 0, h.frozen 1, h.frozen 2, h.frozen 3, h.frozen 4, h.frozen 5, h.frozen 6, h.frozen 7, h.frozen 8⟩

end Go.Proofs.YtmlkfmjenkcflaaGreatDoor

/- A block that is known whole: one cell of it written over. No condition. -/
namespace Go.Proofs.YtmlkfmjenkcflaaGreatDoor
open Go.RowKit
set_option linter.unusedVariables false
set_option maxRecDepth 100000
set_option linter.unusedSimpArgs false

theorem Blk.set {w : World} {b : Nat} {t : TypeId} {cs : Array Value} (h : Blk w b t cs) (j : Nat) (x : Value) : Blk (w.setCell ⟨b, j, none⟩ x) b t (cs.setIfInBounds j x) := Go.Joins.block_setCell (i := j) (v := x) h
theorem Blk.other {w : World} {b b' : Nat} {t : TypeId} {cs : Array Value} (h : Blk w b t cs) (hne : b ≠ b') (j : Nat) (x : Value) : Blk (w.setCell ⟨b', j, none⟩ x) b t cs := (Below.heap_setCell w ⟨b', j, none⟩ x b hne).trans h

end Go.Proofs.YtmlkfmjenkcflaaGreatDoor

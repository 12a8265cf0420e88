/- SameUndo: the program's function and its model answer alike. No condition. -/
import Derived.Test.YtkkdjgiencilbaaD4f
import Derived.Laws.StructEq
namespace Go.Proofs.Ytkkdjgiencilbaa
open Go.RowKit
open Go.BigFrame
set_option linter.unusedVariables false
set_option linter.unusedSimpArgs false

def sameU (x y : UndoD) : Bool := (x.key == y.key) && ((x.was == y.was) && (x.val == y.val))
def sameUs : List UndoD → List UndoD → Bool
  | [], [] => true
  | x :: r, y :: s => sameU x y && sameUs r s
  | _, _ => false

/-- A comparison of two lists, place by place. -/
theorem same_lenUndo {α : Type} {f : α → α → Bool} {g : List α → List α → Bool} (h0 : g [] [] = true) (h1 : ∀ x r y s, g (x :: r) (y :: s) = (f x y && g r s)) (h2 : ∀ x r, g (x :: r) [] = false) (h3 : ∀ y s, g [] (y :: s) = false) :
    ∀ a b, a.length ≠ b.length → g a b = false := by
  intro a
  induction a with
  | nil => intro b h; cases b with | nil => simp at h | cons y s => exact h3 y s
  | cons x r ih => intro b h; cases b with | nil => exact h2 x r | cons y s => rw [h1, ih s (by simpa using h)]; simp
theorem same_badUndo {α : Type} {f : α → α → Bool} {g : List α → List α → Bool} (d : α) (h1 : ∀ x r y s, g (x :: r) (y :: s) = (f x y && g r s)) :
    ∀ a b k, a.length = b.length → k < a.length → f (a.getD k d) (b.getD k d) = false → g a b = false := by
  intro a
  induction a with
  | nil => intro b k _ h; simp at h
  | cons x r ih =>
    intro b k hl hk hf
    cases b with
    | nil => simp at hl
    | cons y s =>
      rw [h1]
      cases k with
      | zero => simp [List.getD] at hf; simp [hf]
      | succ k => rw [ih s k (by simpa using hl) (by simpa using hk) (by simpa [List.getD] using hf)]; simp
theorem same_allUndo {α : Type} {f : α → α → Bool} {g : List α → List α → Bool} (d : α) (h0 : g [] [] = true) (h1 : ∀ x r y s, g (x :: r) (y :: s) = (f x y && g r s)) :
    ∀ a b, a.length = b.length → (∀ k, k < a.length → f (a.getD k d) (b.getD k d) = true) → g a b = true := by
  intro a
  induction a with
  | nil => intro b hl _; cases b with | nil => exact h0 | cons y s => simp at hl
  | cons x r ih =>
    intro b hl hf
    cases b with
    | nil => simp at hl
    | cons y s =>
      rw [h1, ih s (by simpa using hl) (fun k hk => by simpa [List.getD] using hf (k + 1) (by simpa using hk))]
      have := hf 0 (by simp)
      simp [List.getD] at this
      simp [this]

theorem sameUs_refl (xs : List UndoD) : sameUs xs xs = true := by
  induction xs with
  | nil => rfl
  | cons x r ih => simp [sameUs, sameU, ih]

theorem sameUs_eq {xs ys : List UndoD} (h : sameUs xs ys = true) : xs = ys := by
  induction xs generalizing ys with
  | nil => cases ys with | nil => rfl | cons y s => simp [sameUs] at h
  | cons x r ih =>
    cases ys with
    | nil => simp [sameUs] at h
    | cons y s =>
      obtain ⟨x0, x1, x2⟩ := x
      obtain ⟨y0, y1, y2⟩ := y
      simp [sameUs, sameU] at h
      rw [ih h.2, h.1.1, h.1.2.1, h.1.2.2]

theorem eqUndo_run (x0 : Int) (x1 : Bool) (x2 y0 : Int) (y1 : Bool) (y2 : Int) (w : World) : (binOp .neq 170 (.agg #[.int .i64 x0, .bool x1, .int .i64 x2]) (.agg #[.int .i64 y0, .bool y1, .int .i64 y2])).run Try.prog w = .ok (.bool (!sameU ⟨x0, x1, x2⟩ ⟨y0, y1, y2⟩)) w := by
  rw [run_neq_struct, run_equalIn_struct (P := Try.prog) w 9999 170 _ _ (by kernel_rfl) (by kernel_rfl)]
  have c1 : Try.prog.cellsOf 2 = 1 := by kernel_rfl
  have c2 : Try.prog.cellsOf 4 = 1 := by kernel_rfl
  cases h0 : (x0 == y0) <;> cases h1 : (x1 == y1) <;> cases h2 : (x2 == y2) <;> simp [Program.fieldsOf, Try.underlying170, Op.eqFields, go_sem, Try.underlying2, Try.underlying4, h0, h1, h2, sameU, c1, c2]

set_option maxHeartbeats 2000000 in
theorem equalU_any (a a' : Option Addr) (cap cap' : Nat) (xs ys : List UndoD) (w : World) (h : UndoRow w a xs) (h' : UndoRow w a' ys) (hl : xs.length ≤ 1048576) (hl' : ys.length ≤ 1048576) :
    Calls Try.prog 111 #[.slice a xs.length cap, .slice a' ys.length cap'] w fun e w' => e = .returned (.bool (sameUs xs ys)) ∧ Below w.heap.size w w' := by
  by_cases hlen : xs.length = ys.length
  case neg =>
    have E : sameUs xs ys = false := same_lenUndo (f := sameU) rfl (fun _ _ _ _ => rfl) (fun _ _ => rfl) (fun _ _ => rfl) xs ys hlen
    rw [E]
    have hd : ((xs.length : Int) != (ys.length : Int)) = true := by simp; omega
    go_enter Try.func111, Try.ntmps111
    go_wp2
    go_ret
    exact ⟨rfl, Below.refl _ _⟩
  case pos =>
    have hd : ((xs.length : Int) != (ys.length : Int)) = false := by simp [hlen]
    have HL : Hid (xs.length = ys.length) := hlen
    clear hlen
    go_enter Try.func111, Try.ntmps111
    go_wp2
    go_loopw [13] (fun i wr => ∃ k m : Nat, k ≤ xs.length ∧ i = .int .i64 k ∧ wr = w.drewN m ∧ Hid (∀ j, j < k → sameU (xs.getD j undoNo) (ys.getD j undoNo) = true)) (fun i _ => xs.length - (intOf i).toNat)
    case atStart => exact ⟨0, 0, Nat.zero_le _, rfl, rfl, fun j hj => absurd hj (Nat.not_lt_zero _)⟩
    case round =>
      obtain ⟨k, m, hk, rfl, rfl, HA⟩ := hrel
      by_cases hlt : k < xs.length
      · have hlt' : k < ys.length := by have := HL.out; omega
        obtain ⟨b, off, rfl, hbs, hc0, hc1, hc2⟩ := h.at k hlt
        obtain ⟨b', off', rfl, hbs', hd0, hd1, hd2⟩ := h'.at k hlt'
        cases hs : sameU (xs.getD k undoNo) (ys.getD k undoNo)
        case false =>
          have E : Hid (sameUs xs ys = false) := same_badUndo (f := sameU) undoNo (fun _ _ _ _ => rfl) xs ys k HL.out hlt hs
          have hr := eqUndo_run (xs.getD k undoNo).key (xs.getD k undoNo).was (xs.getD k undoNo).val (ys.getD k undoNo).key (ys.getD k undoNo).was (ys.getD k undoNo).val
          rw [show sameU ⟨(xs.getD k undoNo).key, (xs.getD k undoNo).was, (xs.getD k undoNo).val⟩ ⟨(ys.getD k undoNo).key, (ys.getD k undoNo).was, (ys.getD k undoNo).val⟩ = false from hs, Bool.not_false] at hr
          clear HA hs
          generalize xs.getD k undoNo = z at hc0 hc1 hc2 hr
          generalize ys.getD k undoNo = z' at hd0 hd1 hd2 hr
          go_wp2
          go_quiet (fail)
          go_wp2
          go_ret
          rw [E.out]
          exact ⟨rfl, below_drewN (below_drewN (Below.refl _ _) _) _⟩
        case true =>
          have HB : Hid (∀ j, j < k + 1 → sameU (xs.getD j undoNo) (ys.getD j undoNo) = true) := by
            intro j hj
            by_cases hjk : j = k
            · subst hjk; exact hs
            · exact HA.out j (by omega)
          have hr := eqUndo_run (xs.getD k undoNo).key (xs.getD k undoNo).was (xs.getD k undoNo).val (ys.getD k undoNo).key (ys.getD k undoNo).was (ys.getD k undoNo).val
          rw [show sameU ⟨(xs.getD k undoNo).key, (xs.getD k undoNo).was, (xs.getD k undoNo).val⟩ ⟨(ys.getD k undoNo).key, (ys.getD k undoNo).was, (ys.getD k undoNo).val⟩ = true from hs, Bool.not_true] at hr
          clear HA hs
          generalize xs.getD k undoNo = z at hc0 hc1 hc2 hr
          generalize ys.getD k undoNo = z' at hd0 hd1 hd2 hr
          go_wp2
          go_quiet (fail)
          go_wp2
          go_roundw
          case rel => exact ⟨k + 1, _, by omega, by go_num, rfl, HB⟩
          case measure => simp [intOf]; omega
      · have E : Hid (sameUs xs ys = true) := same_allUndo (f := sameU) undoNo rfl (fun _ _ _ _ => rfl) xs ys HL.out (fun j hj => HA.out j (by omega))
        clear HA
        go_wp2
        go_ret
        rw [E.out]
        exact ⟨rfl, below_drewN (Below.refl _ _) _⟩

set_option maxHeartbeats 2000000 in
theorem specSameUndo_any (a a' : Option Addr) (cap cap' : Nat) (xs ys : List UndoD) (w : World) (h : UndoRow w a xs) (h' : UndoRow w a' ys) (hl : xs.length ≤ 1048576) (hl' : ys.length ≤ 1048576) :
    Calls Try.prog 117 #[.slice a xs.length cap, .slice a' ys.length cap'] w fun e w' => e = .returned (.bool (sameUs xs ys)) ∧ Below w.heap.size w w' := by
  by_cases hlen : xs.length = ys.length
  case neg =>
    have E : sameUs xs ys = false := same_lenUndo (f := sameU) rfl (fun _ _ _ _ => rfl) (fun _ _ => rfl) (fun _ _ => rfl) xs ys hlen
    rw [E]
    have hd : ((xs.length : Int) != (ys.length : Int)) = true := by simp; omega
    go_enter Try.func117, Try.ntmps117
    go_wp2
    go_ret
    exact ⟨rfl, Below.refl _ _⟩
  case pos =>
    have hd : ((xs.length : Int) != (ys.length : Int)) = false := by simp [hlen]
    have HL : Hid (xs.length = ys.length) := hlen
    clear hlen
    go_enter Try.func117, Try.ntmps117
    go_wp2
    go_loopw [5] (fun i wr => ∃ k m : Nat, k ≤ xs.length ∧ i = .int .i64 k ∧ wr = w.drewN m ∧ Hid (∀ j, j < k → sameU (xs.getD j undoNo) (ys.getD j undoNo) = true)) (fun i _ => xs.length - (intOf i).toNat)
    case atStart => exact ⟨0, 0, Nat.zero_le _, rfl, rfl, fun j hj => absurd hj (Nat.not_lt_zero _)⟩
    case round =>
      obtain ⟨k, m, hk, rfl, rfl, HA⟩ := hrel
      by_cases hlt : k < xs.length
      · have hlt' : k < ys.length := by have := HL.out; omega
        obtain ⟨b, off, rfl, hbs, hc0, hc1, hc2⟩ := h.at k hlt
        obtain ⟨b', off', rfl, hbs', hd0, hd1, hd2⟩ := h'.at k hlt'
        cases hs : sameU (xs.getD k undoNo) (ys.getD k undoNo)
        case false =>
          have E : Hid (sameUs xs ys = false) := same_badUndo (f := sameU) undoNo (fun _ _ _ _ => rfl) xs ys k HL.out hlt hs
          have hr := eqUndo_run (xs.getD k undoNo).key (xs.getD k undoNo).was (xs.getD k undoNo).val (ys.getD k undoNo).key (ys.getD k undoNo).was (ys.getD k undoNo).val
          rw [show sameU ⟨(xs.getD k undoNo).key, (xs.getD k undoNo).was, (xs.getD k undoNo).val⟩ ⟨(ys.getD k undoNo).key, (ys.getD k undoNo).was, (ys.getD k undoNo).val⟩ = false from hs, Bool.not_false] at hr
          clear HA hs
          generalize xs.getD k undoNo = z at hc0 hc1 hc2 hr
          generalize ys.getD k undoNo = z' at hd0 hd1 hd2 hr
          go_wp2
          go_quiet (fail)
          go_wp2
          go_ret
          rw [E.out]
          exact ⟨rfl, below_drewN (below_drewN (Below.refl _ _) _) _⟩
        case true =>
          have HB : Hid (∀ j, j < k + 1 → sameU (xs.getD j undoNo) (ys.getD j undoNo) = true) := by
            intro j hj
            by_cases hjk : j = k
            · subst hjk; exact hs
            · exact HA.out j (by omega)
          have hr := eqUndo_run (xs.getD k undoNo).key (xs.getD k undoNo).was (xs.getD k undoNo).val (ys.getD k undoNo).key (ys.getD k undoNo).was (ys.getD k undoNo).val
          rw [show sameU ⟨(xs.getD k undoNo).key, (xs.getD k undoNo).was, (xs.getD k undoNo).val⟩ ⟨(ys.getD k undoNo).key, (ys.getD k undoNo).was, (ys.getD k undoNo).val⟩ = true from hs, Bool.not_true] at hr
          clear HA hs
          generalize xs.getD k undoNo = z at hc0 hc1 hc2 hr
          generalize ys.getD k undoNo = z' at hd0 hd1 hd2 hr
          go_wp2
          go_quiet (fail)
          go_wp2
          go_roundw
          case rel => exact ⟨k + 1, _, by omega, by go_num, rfl, HB⟩
          case measure => simp [intOf]; omega
      · have E : Hid (sameUs xs ys = true) := same_allUndo (f := sameU) undoNo rfl (fun _ _ _ _ => rfl) xs ys HL.out (fun j hj => HA.out j (by omega))
        clear HA
        go_wp2
        go_ret
        rw [E.out]
        exact ⟨rfl, below_drewN (Below.refl _ _) _⟩

set_option maxHeartbeats 1000000 in
theorem implSameUndo_any (a a' : Option Addr) (cap cap' : Nat) (xs ys : List UndoD) (w : World) (h : UndoRow w a xs) (h' : UndoRow w a' ys) (hl : xs.length ≤ 1048576) (hl' : ys.length ≤ 1048576) :
    Calls Try.prog 92 #[.slice a xs.length cap, .slice a' ys.length cap'] w fun e w' => e = .returned (.bool (sameUs xs ys)) ∧ Below w.heap.size w w' := by
  have hq := fun w h h' => equalU_any a a' cap cap' xs ys w h h' hl hl'
  generalize sameUs xs ys = r at hq
  go_enter Try.func92, Try.ntmps92
  go_wp2_with fail
  refine (hq _ h h').mono ?_
  rintro e w' ⟨rfl, hb⟩
  go_wp2
  go_ret
  exact ⟨rfl, hb⟩

end Go.Proofs.Ytkkdjgiencilbaa

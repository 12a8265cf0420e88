/- SameTxns: the program's function and its model answer alike. No condition. -/
import Derived.Test.YticfbapipdhhmaaD2s
import Derived.Test.YticfbapipdhhmaaOpen3
import Derived.Laws.StructEq
namespace Go.Proofs.Yticfbapipdhhmaa
open Go.RowKit
open Go.BigFrame
set_option linter.unusedVariables false
set_option linter.unusedSimpArgs false

def sameA (x y : ActD) : Bool := (x.kind == y.kind) && ((x.key == y.key) && (x.val == y.val))
def sameAs : List ActD → List ActD → Bool
  | [], [] => true
  | x :: r, y :: s => sameA x y && sameAs r s
  | _, _ => false
def sameT (x y : TxnD) : Bool := (x.id == y.id) && (x.session == y.session) && (x.seq == y.seq) && sameAs x.acts y.acts
def sameTs : List TxnD → List TxnD → Bool
  | [], [] => true
  | x :: r, y :: s => sameT x y && sameTs r s
  | _, _ => false

/-- A comparison of two lists, place by place. -/
theorem same_len {α : Type} {f : α → α → Bool} {g : List α → List α → Bool} (h0 : g [] [] = true) (h1 : ∀ x r y s, g (x :: r) (y :: s) = (f x y && g r s)) (h2 : ∀ x r, g (x :: r) [] = false) (h3 : ∀ y s, g [] (y :: s) = false) :
    ∀ a b, a.length ≠ b.length → g a b = false := by
  intro a
  induction a with
  | nil => intro b h; cases b with | nil => simp at h | cons y s => exact h3 y s
  | cons x r ih => intro b h; cases b with | nil => exact h2 x r | cons y s => rw [h1, ih s (by simpa using h)]; simp
theorem same_bad {α : Type} {f : α → α → Bool} {g : List α → List α → Bool} (d : α) (h1 : ∀ x r y s, g (x :: r) (y :: s) = (f x y && g r s)) :
    ∀ a b k, a.length = b.length → k < a.length → f (a.getD k d) (b.getD k d) = false → g a b = false := by
  intro a
  induction a with
  | nil => intro b k _ h; simp at h
  | cons x r ih =>
    intro b k hl hk hf
    cases b with
    | nil => simp at hl
    | cons y s =>
      rw [h1]
      cases k with
      | zero => simp [List.getD] at hf; simp [hf]
      | succ k => rw [ih s k (by simpa using hl) (by simpa using hk) (by simpa [List.getD] using hf)]; simp
theorem same_all {α : Type} {f : α → α → Bool} {g : List α → List α → Bool} (d : α) (h0 : g [] [] = true) (h1 : ∀ x r y s, g (x :: r) (y :: s) = (f x y && g r s)) :
    ∀ a b, a.length = b.length → (∀ k, k < a.length → f (a.getD k d) (b.getD k d) = true) → g a b = true := by
  intro a
  induction a with
  | nil => intro b hl _; cases b with | nil => exact h0 | cons y s => simp at hl
  | cons x r ih =>
    intro b hl hf
    cases b with
    | nil => simp at hl
    | cons y s =>
      rw [h1, ih s (by simpa using hl) (fun k hk => by simpa [List.getD] using hf (k + 1) (by simpa using hk))]
      have := hf 0 (by simp)
      simp [List.getD] at this
      simp [this]

theorem eqAct_run (x0 x1 x2 y0 y1 y2 : Int) (w : World) : (binOp .neq 42 (.agg #[.int .i64 x0, .int .i64 x1, .int .i64 x2]) (.agg #[.int .i64 y0, .int .i64 y1, .int .i64 y2])).run Try.prog w = .ok (.bool (!sameA ⟨x0, x1, x2⟩ ⟨y0, y1, y2⟩)) w := by
  rw [run_neq_struct, run_equalIn_struct (P := Try.prog) w 9999 42 _ _ (by kernel_rfl) (by kernel_rfl)]
  have c1 : Try.prog.cellsOf 2 = 1 := by kernel_rfl
  cases h0 : (x0 == y0) <;> cases h1 : (x1 == y1) <;> cases h2 : (x2 == y2) <;> simp [Program.fieldsOf, Try.underlying42, Op.eqFields, go_sem, Try.underlying2, h0, h1, h2, sameA, c1]

set_option maxRecDepth 100000 in
set_option maxHeartbeats 2000000 in
theorem equalA_any (a a' : Option Addr) (cap cap' : Nat) (xs ys : List ActD) (w : World) (h : ActRow w a xs) (h' : ActRow w a' ys) (hl : xs.length ≤ 1048576) (hl' : ys.length ≤ 1048576) :
    Calls Try.prog 19 #[.slice a xs.length cap, .slice a' ys.length cap'] w fun e w' => e = .returned (.bool (sameAs xs ys)) ∧ Below w.heap.size w w' := by
  by_cases hlen : xs.length = ys.length
  case neg =>
    have E : sameAs xs ys = false := same_len (f := sameA) rfl (fun _ _ _ _ => rfl) (fun _ _ => rfl) (fun _ _ => rfl) xs ys hlen
    rw [E]
    have hd : ((xs.length : Int) != (ys.length : Int)) = true := by simp; omega
    go_enter Try.func19, Try.ntmps19
    go_wp2
    go_ret
    exact ⟨rfl, Below.refl _ _⟩
  case pos =>
    have hd : ((xs.length : Int) != (ys.length : Int)) = false := by simp [hlen]
    have HL : Hid (xs.length = ys.length) := hlen
    clear hlen
    go_enter Try.func19, Try.ntmps19
    go_wp2
    go_loopw [13] (fun i wr => ∃ k m : Nat, k ≤ xs.length ∧ i = .int .i64 k ∧ wr = w.drewN m ∧ Hid (∀ j, j < k → sameA (xs.getD j actNo) (ys.getD j actNo) = true)) (fun i _ => xs.length - (intOf i).toNat)
    case atStart => exact ⟨0, 0, Nat.zero_le _, rfl, rfl, fun j hj => absurd hj (Nat.not_lt_zero _)⟩
    case round =>
      obtain ⟨k, m, hk, rfl, rfl, HA⟩ := hrel
      by_cases hlt : k < xs.length
      · have hlt' : k < ys.length := by have := HL.out; omega
        obtain ⟨b, off, rfl, hbs, hc0, hc1, hc2⟩ := h.at k hlt
        obtain ⟨b', off', rfl, hbs', hd0, hd1, hd2⟩ := h'.at k hlt'
        cases hs : sameA (xs.getD k actNo) (ys.getD k actNo)
        case false =>
          have E : Hid (sameAs xs ys = false) := same_bad (f := sameA) actNo (fun _ _ _ _ => rfl) xs ys k HL.out hlt hs
          have hr := eqAct_run (xs.getD k actNo).kind (xs.getD k actNo).key (xs.getD k actNo).val (ys.getD k actNo).kind (ys.getD k actNo).key (ys.getD k actNo).val
          rw [show sameA ⟨(xs.getD k actNo).kind, (xs.getD k actNo).key, (xs.getD k actNo).val⟩ ⟨(ys.getD k actNo).kind, (ys.getD k actNo).key, (ys.getD k actNo).val⟩ = false from hs, Bool.not_false] at hr
          clear HA hs
          generalize xs.getD k actNo = z at hc0 hc1 hc2 hr
          generalize ys.getD k actNo = z' at hd0 hd1 hd2 hr
          go_wp2
          go_quiet (fail)
          go_wp2
          go_ret
          rw [E.out]
          exact ⟨rfl, ⟨rfl, rfl, rfl, Nat.le_refl _, fun _ _ => rfl⟩⟩
        case true =>
          have HB : Hid (∀ j, j < k + 1 → sameA (xs.getD j actNo) (ys.getD j actNo) = true) := by
            intro j hj
            by_cases hjk : j = k
            · subst hjk; exact hs
            · exact HA.out j (by omega)
          have hr := eqAct_run (xs.getD k actNo).kind (xs.getD k actNo).key (xs.getD k actNo).val (ys.getD k actNo).kind (ys.getD k actNo).key (ys.getD k actNo).val
          rw [show sameA ⟨(xs.getD k actNo).kind, (xs.getD k actNo).key, (xs.getD k actNo).val⟩ ⟨(ys.getD k actNo).kind, (ys.getD k actNo).key, (ys.getD k actNo).val⟩ = true from hs, Bool.not_true] at hr
          clear HA hs
          generalize xs.getD k actNo = z at hc0 hc1 hc2 hr
          generalize ys.getD k actNo = z' at hd0 hd1 hd2 hr
          go_wp2
          go_quiet (fail)
          go_wp2
          go_roundw
          case rel => exact ⟨k + 1, _, by omega, by go_num, rfl, HB⟩
          case measure => simp [intOf]; omega
      · have E : Hid (sameAs xs ys = true) := same_all (f := sameA) actNo rfl (fun _ _ _ _ => rfl) xs ys HL.out (fun j hj => HA.out j (by omega))
        clear HA
        go_wp2
        go_ret
        rw [E.out]
        exact ⟨rfl, ⟨rfl, rfl, rfl, Nat.le_refl _, fun _ _ => rfl⟩⟩

theorem sameT_ways (x y : TxnD) : ((x.id == y.id) = false ∧ sameT x y = false) ∨ ((x.id == y.id) = true ∧ (x.session == y.session) = false ∧ sameT x y = false) ∨ ((x.id == y.id) = true ∧ (x.session == y.session) = true ∧ (x.seq == y.seq) = false ∧ sameT x y = false) ∨
    ((x.id == y.id) = true ∧ (x.session == y.session) = true ∧ (x.seq == y.seq) = true ∧ sameT x y = sameAs x.acts y.acts) := by
  unfold sameT
  cases h1 : (x.id == y.id) <;> cases h2 : (x.session == y.session) <;> cases h3 : (x.seq == y.seq) <;> simp

set_option maxRecDepth 100000 in
set_option maxHeartbeats 2000000 in
theorem isSameTxn_any (x y : TxnD) (a a' : Option Addr) (cap cap' : Nat) (w : World) (h : ActRow w a x.acts) (h' : ActRow w a' y.acts) (hl : x.acts.length ≤ 1048576) (hl' : y.acts.length ≤ 1048576) :
    Calls Try.prog 13 #[.agg #[.int .i64 x.id, .int .i64 x.session, .int .i64 x.seq, .slice a x.acts.length cap], .agg #[.int .i64 y.id, .int .i64 y.session, .int .i64 y.seq, .slice a' y.acts.length cap']] w fun e w' => e = .returned (.bool (sameT x y)) ∧ Below w.heap.size w w' := by
  have hq := fun w h h' => equalA_any a a' cap cap' x.acts y.acts w h h' hl hl'
  rcases sameT_ways x y with ⟨h1, e⟩ | ⟨h1, h2, e⟩ | ⟨h1, h2, h3, e⟩ | ⟨h1, h2, h3, e⟩ <;> rw [e] <;> clear e
  all_goals
    (generalize sameAs x.acts y.acts = r at hq
     obtain ⟨x0, x1, x2, xs⟩ := x
     obtain ⟨y0, y1, y2, ys⟩ := y
     dsimp only at *)
  all_goals
    (go_enter Try.func13, Try.ntmps13
     go_wp2_with (go_at_call 19; refine (hq _ (h.below (by go_grown)) (h'.below (by go_grown))).mono ?_; rintro e w' ⟨rfl, hb⟩)
     go_ret)
  · exact ⟨rfl, by go_grown⟩
  · exact ⟨rfl, by go_grown⟩
  · exact ⟨rfl, by go_grown⟩
  · exact ⟨rfl, below_from (by go_grown) hb⟩

end Go.Proofs.Yticfbapipdhhmaa

/- SameItems: the program's function and its model answer alike. No condition. -/
import Derived.Test.YtkkdjgiencilbaaD3f
import Derived.Laws.StructEq
namespace Go.Proofs.Ytkkdjgiencilbaa
open Go.RowKit
open Go.BigFrame
set_option linter.unusedVariables false
set_option linter.unusedSimpArgs false

def sameI (x y : ItemD) : Bool := (x.key == y.key) && (x.val == y.val)
def sameIs : List ItemD → List ItemD → Bool
  | [], [] => true
  | x :: r, y :: s => sameI x y && sameIs r s
  | _, _ => false

/-- A comparison of two lists, place by place. -/
theorem same_lenItem {α : Type} {f : α → α → Bool} {g : List α → List α → Bool} (h0 : g [] [] = true) (h1 : ∀ x r y s, g (x :: r) (y :: s) = (f x y && g r s)) (h2 : ∀ x r, g (x :: r) [] = false) (h3 : ∀ y s, g [] (y :: s) = false) :
    ∀ a b, a.length ≠ b.length → g a b = false := by
  intro a
  induction a with
  | nil => intro b h; cases b with | nil => simp at h | cons y s => exact h3 y s
  | cons x r ih => intro b h; cases b with | nil => exact h2 x r | cons y s => rw [h1, ih s (by simpa using h)]; simp
theorem same_badItem {α : Type} {f : α → α → Bool} {g : List α → List α → Bool} (d : α) (h1 : ∀ x r y s, g (x :: r) (y :: s) = (f x y && g r s)) :
    ∀ a b k, a.length = b.length → k < a.length → f (a.getD k d) (b.getD k d) = false → g a b = false := by
  intro a
  induction a with
  | nil => intro b k _ h; simp at h
  | cons x r ih =>
    intro b k hl hk hf
    cases b with
    | nil => simp at hl
    | cons y s =>
      rw [h1]
      cases k with
      | zero => simp [List.getD] at hf; simp [hf]
      | succ k => rw [ih s k (by simpa using hl) (by simpa using hk) (by simpa [List.getD] using hf)]; simp
theorem same_allItem {α : Type} {f : α → α → Bool} {g : List α → List α → Bool} (d : α) (h0 : g [] [] = true) (h1 : ∀ x r y s, g (x :: r) (y :: s) = (f x y && g r s)) :
    ∀ a b, a.length = b.length → (∀ k, k < a.length → f (a.getD k d) (b.getD k d) = true) → g a b = true := by
  intro a
  induction a with
  | nil => intro b hl _; cases b with | nil => exact h0 | cons y s => simp at hl
  | cons x r ih =>
    intro b hl hf
    cases b with
    | nil => simp at hl
    | cons y s =>
      rw [h1, ih s (by simpa using hl) (fun k hk => by simpa [List.getD] using hf (k + 1) (by simpa using hk))]
      have := hf 0 (by simp)
      simp [List.getD] at this
      simp [this]

theorem sameIs_refl (xs : List ItemD) : sameIs xs xs = true := by
  induction xs with
  | nil => rfl
  | cons x r ih => simp [sameIs, sameI, ih]

theorem sameIs_eq {xs ys : List ItemD} (h : sameIs xs ys = true) : xs = ys := by
  induction xs generalizing ys with
  | nil => cases ys with | nil => rfl | cons y s => simp [sameIs] at h
  | cons x r ih =>
    cases ys with
    | nil => simp [sameIs] at h
    | cons y s =>
      obtain ⟨x0, x1⟩ := x
      obtain ⟨y0, y1⟩ := y
      simp [sameIs, sameI] at h
      rw [ih h.2, h.1.1, h.1.2]

theorem eqItem_run (x0 x1 y0 y1 : Int) (w : World) : (binOp .neq 168 (.agg #[.int .i64 x0, .int .i64 x1]) (.agg #[.int .i64 y0, .int .i64 y1])).run Try.prog w = .ok (.bool (!sameI ⟨x0, x1⟩ ⟨y0, y1⟩)) w := by
  rw [run_neq_struct, run_equalIn_struct (P := Try.prog) w 9999 168 _ _ (by kernel_rfl) (by kernel_rfl)]
  have c1 : Try.prog.cellsOf 2 = 1 := by kernel_rfl
  cases h0 : (x0 == y0) <;> cases h1 : (x1 == y1) <;> simp [Program.fieldsOf, Try.underlying168, Op.eqFields, go_sem, Try.underlying2, h0, h1, sameI, c1]

set_option maxHeartbeats 2000000 in
theorem equalI_any (a a' : Option Addr) (cap cap' : Nat) (xs ys : List ItemD) (w : World) (h : ItemRow w a xs) (h' : ItemRow w a' ys) (hl : xs.length ≤ 1048576) (hl' : ys.length ≤ 1048576) :
    Calls Try.prog 110 #[.slice a xs.length cap, .slice a' ys.length cap'] w fun e w' => e = .returned (.bool (sameIs xs ys)) ∧ Below w.heap.size w w' := by
  by_cases hlen : xs.length = ys.length
  case neg =>
    have E : sameIs xs ys = false := same_lenItem (f := sameI) rfl (fun _ _ _ _ => rfl) (fun _ _ => rfl) (fun _ _ => rfl) xs ys hlen
    rw [E]
    have hd : ((xs.length : Int) != (ys.length : Int)) = true := by simp; omega
    go_enter Try.func110, Try.ntmps110
    go_wp2
    go_ret
    exact ⟨rfl, Below.refl _ _⟩
  case pos =>
    have hd : ((xs.length : Int) != (ys.length : Int)) = false := by simp [hlen]
    have HL : Hid (xs.length = ys.length) := hlen
    clear hlen
    go_enter Try.func110, Try.ntmps110
    go_wp2
    go_loopw [13] (fun i wr => ∃ k m : Nat, k ≤ xs.length ∧ i = .int .i64 k ∧ wr = w.drewN m ∧ Hid (∀ j, j < k → sameI (xs.getD j itemNo) (ys.getD j itemNo) = true)) (fun i _ => xs.length - (intOf i).toNat)
    case atStart => exact ⟨0, 0, Nat.zero_le _, rfl, rfl, fun j hj => absurd hj (Nat.not_lt_zero _)⟩
    case round =>
      obtain ⟨k, m, hk, rfl, rfl, HA⟩ := hrel
      by_cases hlt : k < xs.length
      · have hlt' : k < ys.length := by have := HL.out; omega
        obtain ⟨b, off, rfl, hbs, hc0, hc1⟩ := h.at k hlt
        obtain ⟨b', off', rfl, hbs', hd0, hd1⟩ := h'.at k hlt'
        cases hs : sameI (xs.getD k itemNo) (ys.getD k itemNo)
        case false =>
          have E : Hid (sameIs xs ys = false) := same_badItem (f := sameI) itemNo (fun _ _ _ _ => rfl) xs ys k HL.out hlt hs
          have hr := eqItem_run (xs.getD k itemNo).key (xs.getD k itemNo).val (ys.getD k itemNo).key (ys.getD k itemNo).val
          rw [show sameI ⟨(xs.getD k itemNo).key, (xs.getD k itemNo).val⟩ ⟨(ys.getD k itemNo).key, (ys.getD k itemNo).val⟩ = false from hs, Bool.not_false] at hr
          clear HA hs
          generalize xs.getD k itemNo = z at hc0 hc1 hr
          generalize ys.getD k itemNo = z' at hd0 hd1 hr
          go_wp2
          go_quiet (fail)
          go_wp2
          go_ret
          rw [E.out]
          exact ⟨rfl, below_drewN (below_drewN (Below.refl _ _) _) _⟩
        case true =>
          have HB : Hid (∀ j, j < k + 1 → sameI (xs.getD j itemNo) (ys.getD j itemNo) = true) := by
            intro j hj
            by_cases hjk : j = k
            · subst hjk; exact hs
            · exact HA.out j (by omega)
          have hr := eqItem_run (xs.getD k itemNo).key (xs.getD k itemNo).val (ys.getD k itemNo).key (ys.getD k itemNo).val
          rw [show sameI ⟨(xs.getD k itemNo).key, (xs.getD k itemNo).val⟩ ⟨(ys.getD k itemNo).key, (ys.getD k itemNo).val⟩ = true from hs, Bool.not_true] at hr
          clear HA hs
          generalize xs.getD k itemNo = z at hc0 hc1 hr
          generalize ys.getD k itemNo = z' at hd0 hd1 hr
          go_wp2
          go_quiet (fail)
          go_wp2
          go_roundw
          case rel => exact ⟨k + 1, _, by omega, by go_num, rfl, HB⟩
          case measure => simp [intOf]; omega
      · have E : Hid (sameIs xs ys = true) := same_allItem (f := sameI) itemNo rfl (fun _ _ _ _ => rfl) xs ys HL.out (fun j hj => HA.out j (by omega))
        clear HA
        go_wp2
        go_ret
        rw [E.out]
        exact ⟨rfl, below_drewN (Below.refl _ _) _⟩

set_option maxHeartbeats 2000000 in
theorem specSameItems_any (a a' : Option Addr) (cap cap' : Nat) (xs ys : List ItemD) (w : World) (h : ItemRow w a xs) (h' : ItemRow w a' ys) (hl : xs.length ≤ 1048576) (hl' : ys.length ≤ 1048576) :
    Calls Try.prog 104 #[.slice a xs.length cap, .slice a' ys.length cap'] w fun e w' => e = .returned (.bool (sameIs xs ys)) ∧ Below w.heap.size w w' := by
  by_cases hlen : xs.length = ys.length
  case neg =>
    have E : sameIs xs ys = false := same_lenItem (f := sameI) rfl (fun _ _ _ _ => rfl) (fun _ _ => rfl) (fun _ _ => rfl) xs ys hlen
    rw [E]
    have hd : ((xs.length : Int) != (ys.length : Int)) = true := by simp; omega
    go_enter Try.func104, Try.ntmps104
    go_wp2
    go_ret
    exact ⟨rfl, Below.refl _ _⟩
  case pos =>
    have hd : ((xs.length : Int) != (ys.length : Int)) = false := by simp [hlen]
    have HL : Hid (xs.length = ys.length) := hlen
    clear hlen
    go_enter Try.func104, Try.ntmps104
    go_wp2
    go_loopw [5] (fun i wr => ∃ k m : Nat, k ≤ xs.length ∧ i = .int .i64 k ∧ wr = w.drewN m ∧ Hid (∀ j, j < k → sameI (xs.getD j itemNo) (ys.getD j itemNo) = true)) (fun i _ => xs.length - (intOf i).toNat)
    case atStart => exact ⟨0, 0, Nat.zero_le _, rfl, rfl, fun j hj => absurd hj (Nat.not_lt_zero _)⟩
    case round =>
      obtain ⟨k, m, hk, rfl, rfl, HA⟩ := hrel
      by_cases hlt : k < xs.length
      · have hlt' : k < ys.length := by have := HL.out; omega
        obtain ⟨b, off, rfl, hbs, hc0, hc1⟩ := h.at k hlt
        obtain ⟨b', off', rfl, hbs', hd0, hd1⟩ := h'.at k hlt'
        cases hs : sameI (xs.getD k itemNo) (ys.getD k itemNo)
        case false =>
          have E : Hid (sameIs xs ys = false) := same_badItem (f := sameI) itemNo (fun _ _ _ _ => rfl) xs ys k HL.out hlt hs
          have hr := eqItem_run (xs.getD k itemNo).key (xs.getD k itemNo).val (ys.getD k itemNo).key (ys.getD k itemNo).val
          rw [show sameI ⟨(xs.getD k itemNo).key, (xs.getD k itemNo).val⟩ ⟨(ys.getD k itemNo).key, (ys.getD k itemNo).val⟩ = false from hs, Bool.not_false] at hr
          clear HA hs
          generalize xs.getD k itemNo = z at hc0 hc1 hr
          generalize ys.getD k itemNo = z' at hd0 hd1 hr
          go_wp2
          go_quiet (fail)
          go_wp2
          go_ret
          rw [E.out]
          exact ⟨rfl, below_drewN (below_drewN (Below.refl _ _) _) _⟩
        case true =>
          have HB : Hid (∀ j, j < k + 1 → sameI (xs.getD j itemNo) (ys.getD j itemNo) = true) := by
            intro j hj
            by_cases hjk : j = k
            · subst hjk; exact hs
            · exact HA.out j (by omega)
          have hr := eqItem_run (xs.getD k itemNo).key (xs.getD k itemNo).val (ys.getD k itemNo).key (ys.getD k itemNo).val
          rw [show sameI ⟨(xs.getD k itemNo).key, (xs.getD k itemNo).val⟩ ⟨(ys.getD k itemNo).key, (ys.getD k itemNo).val⟩ = true from hs, Bool.not_true] at hr
          clear HA hs
          generalize xs.getD k itemNo = z at hc0 hc1 hr
          generalize ys.getD k itemNo = z' at hd0 hd1 hr
          go_wp2
          go_quiet (fail)
          go_wp2
          go_roundw
          case rel => exact ⟨k + 1, _, by omega, by go_num, rfl, HB⟩
          case measure => simp [intOf]; omega
      · have E : Hid (sameIs xs ys = true) := same_allItem (f := sameI) itemNo rfl (fun _ _ _ _ => rfl) xs ys HL.out (fun j hj => HA.out j (by omega))
        clear HA
        go_wp2
        go_ret
        rw [E.out]
        exact ⟨rfl, below_drewN (Below.refl _ _) _⟩

set_option maxHeartbeats 1000000 in
theorem implSameItems_any (a a' : Option Addr) (cap cap' : Nat) (xs ys : List ItemD) (w : World) (h : ItemRow w a xs) (h' : ItemRow w a' ys) (hl : xs.length ≤ 1048576) (hl' : ys.length ≤ 1048576) :
    Calls Try.prog 90 #[.slice a xs.length cap, .slice a' ys.length cap'] w fun e w' => e = .returned (.bool (sameIs xs ys)) ∧ Below w.heap.size w w' := by
  have hq := fun w h h' => equalI_any a a' cap cap' xs ys w h h' hl hl'
  generalize sameIs xs ys = r at hq
  go_enter Try.func90, Try.ntmps90
  go_wp2_with fail
  refine (hq _ h h').mono ?_
  rintro e w' ⟨rfl, hb⟩
  go_wp2
  go_ret
  exact ⟨rfl, hb⟩

end Go.Proofs.Ytkkdjgiencilbaa

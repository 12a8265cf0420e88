/- bytes.Equal; what is read of the bytes of a vote, in plain words. No condition. -/
import Derived.Test.YtpdbjjklcejimaaVq10
import Derived.Test.YtpdbjjklcejimaaRead
import Derived.Test.YtpdbjjklcejimaaNumPure
import Derived.Laws.BytesArg
import Derived.Lib.Bytes
namespace Go.Proofs.Ytpdbjjklcejimaa
open Go.RowKit
open Go.BigFrame
set_option linter.unusedVariables false
set_option linter.unusedSimpArgs false

theorem byte_inj {a b : Int} (ha : 0 ≤ a ∧ a ≤ 255) (hb : 0 ≤ b ∧ b ≤ 255) (h : UInt8.ofNat a.toNat = UInt8.ofNat b.toNat) : a = b := by
  have h' := congrArg UInt8.toNat h
  simp only [UInt8.toNat_ofNat'] at h'
  omega

theorem bytes_inj : ∀ (xs ys : List Int), (∀ x ∈ xs, 0 ≤ x ∧ x ≤ 255) → (∀ y ∈ ys, 0 ≤ y ∧ y ≤ 255) → Lib.bytesOf xs = Lib.bytesOf ys → xs = ys
  | [], [], _, _, _ => rfl
  | [], y :: ys, _, _, h => by simp [Lib.bytesOf] at h
  | x :: xs, [], _, _, h => by simp [Lib.bytesOf] at h
  | x :: xs, y :: ys, hx, hy, h => by
    simp only [Lib.bytesOf, List.map_cons, List.cons.injEq] at h
    rw [byte_inj (hx x (by simp)) (hy y (by simp)) h.1, bytes_inj xs ys (fun z hz => hx z (by simp [hz])) (fun z hz => hy z (by simp [hz])) h.2]

theorem all_of_getD {p : Int → Prop} {l : List Int} (h : ∀ i, p (l.getD i 0)) : ∀ x ∈ l, p x := by
  intro x hx
  obtain ⟨i, hi, rfl⟩ := List.mem_iff_getElem.1 hx
  have := h i
  simpa [List.getD, hi] using this

theorem bytes_eqB {xs ys : List Int} (hx : ∀ i, 0 ≤ xs.getD i 0 ∧ xs.getD i 0 ≤ 255) (hy : ∀ i, 0 ≤ ys.getD i 0 ∧ ys.getD i 0 ≤ 255) : (Lib.bytesOf xs == Lib.bytesOf ys) = decide (xs = ys) := by
  by_cases h : xs = ys
  · subst h; simp
  · have hn : Lib.bytesOf xs ≠ Lib.bytesOf ys := fun e => h (bytes_inj xs ys (all_of_getD (p := fun x => 0 ≤ x ∧ x ≤ 255) hx) (all_of_getD (p := fun x => 0 ≤ x ∧ x ≤ 255) hy) e)
    rw [decide_eq_false h]
    simpa using hn

/-- A slice's address is of the plain kind. -/
def Pla (a : Option Addr) : Prop := a = none ∨ ∃ b off, a = some ⟨b, off, none⟩

theorem conv_bytes {a : Option Addr} {xs : List Int} {w : World} (hp : Pla a) (h : Row .u8 w a xs) (cap : Nat) : (convert 22 9 (.slice a xs.length cap)).run Try.prog w = .ok (.string (strOfNums xs)) w := by
  rcases hp with rfl | ⟨b, off, rfl⟩
  · have hx : xs = [] := by
      cases xs with
      | nil => rfl
      | cons x xs => obtain ⟨b, off, e, _⟩ := h 0 (by simp); cases e
    subst hx
    exact run_convert_bytes_nil w 22 5 (by kernel_rfl) (by kernel_rfl) 0 cap 9 (by kernel_rfl)
  · refine run_convert_bytes_arg w 22 5 (by kernel_rfl) (by kernel_rfl) b off xs.length cap xs rfl (fun i hi => ?_) 9 (by kernel_rfl)
    obtain ⟨b', off', e, _, hc⟩ := h i hi
    simp only [Option.some.injEq, Addr.mk.injEq] at e
    obtain ⟨rfl, rfl, _⟩ := e
    exact hc

set_option maxHeartbeats 1000000 in
theorem bytesEqual_any (a b : Option Addr) (c d : Nat) (xs ys : List Int) (w : World) (pa : Pla a) (pb : Pla b) (h1 : Row .u8 w a xs) (h2 : Row .u8 w b ys)
    (hx : ∀ i, 0 ≤ xs.getD i 0 ∧ xs.getD i 0 ≤ 255) (hy : ∀ i, 0 ≤ ys.getD i 0 ∧ ys.getD i 0 ≤ 255) :
    Calls Try.prog 37 #[.slice a xs.length c, .slice b ys.length d] w fun e w' => e = .returned (.bool (decide (xs = ys))) ∧ w' = w := by
  rw [← bytes_eqB hx hy, ← Lib.strOfNums_toList, ← Lib.strOfNums_toList]
  have g1 := conv_bytes pa h1 c
  have g2 := conv_bytes pb h2 d
  clear h1 h2 hx hy
  go_enter Try.func37, Try.ntmps37
  go_wp2
  go_ret
  exact ⟨rfl, rfl⟩

theorem sl_hiB (a : Option Addr) (n c k : Nat) (hk : k ≤ c) (w : World) : (Instr.slice 22 (.slice a n c) none (some (.int .i64 (k : Int))) none).run Try.prog w = .ok (.slice a k c) w := by
  have hel : Try.prog.elem 22 = 5 := by kernel_rfl
  have hun : Try.prog.underlying 22 = some (.slice (Try.prog.elem 22)) := by kernel_rfl
  have hsz : (sizeOf (Try.prog.elem 22)).run Try.prog w = .ok 1 w := by rw [hel]; kernel_rfl
  rw [run_slice_h (ht := hun) (kh := .i64) (h := (k : Int)) (h0 := by omega) (h2 := by omega), hsz]
  have e0 : a.map (·.add (0 * 1)) = a := by cases a <;> simp [Addr.add]
  simp only [Result.andThen, sliced, Int.toNat_natCast, e0, ite_self, Nat.sub_zero]

theorem take_u8' {ps : List Int} (h : ∀ i, 0 ≤ ps.getD i 0 ∧ ps.getD i 0 ≤ 255) (j : Nat) : ∀ i, 0 ≤ (ps.take j).getD i 0 ∧ (ps.take j).getD i 0 ≤ 255 := by
  intro i
  by_cases hi : i < j
  · have := h i
    simpa [List.getD, List.getElem?_take, hi] using this
  · simp [List.getD, List.getElem?_take, hi]

/-- What the bytes from the second one on tell. -/
def rvX (ds : List Int) : VoteD := ⟨get2 (ds.getD 1 0) (ds.getD 2 0), get2 (ds.getD 3 0) (ds.getD 4 0), get2 (ds.getD 5 0) (ds.getD 6 0), get2 (ds.getD 7 0) (ds.getD 8 0)⟩
def rvOk (ds : List Int) : Bool := decide (ds.length = 11 ∧ 256 * ds.getD 9 0 + ds.getD 10 0 = sumL (ds.take 9) ∧ ds.getD 0 0 = 4 ∧ voteF (rvX ds) = 0)
def rvC (ds : List Int) : Int := if rvOk ds then 0 else 5
def rvV (ds : List Int) : VoteD := if rvOk ds then rvX ds else voteNo

theorem len11 : ∀ {ds : List Int}, ds.length = 11 → ∃ d0 d1 d2 d3 d4 d5 d6 d7 d8 d9 d10, ds = [d0, d1, d2, d3, d4, d5, d6, d7, d8, d9, d10]
  | [d0, d1, d2, d3, d4, d5, d6, d7, d8, d9, d10], _ => ⟨d0, d1, d2, d3, d4, d5, d6, d7, d8, d9, d10, rfl⟩

/-- The program's way: four numbers are read of all but the last two bytes. -/
theorem rv_four {ds : List Int} (h : (readR (ds.take (ds.length - 2))).length = 4) : ds.length = 11 ∧ ds.getD 0 0 = 4 ∧ readR (ds.take (ds.length - 2)) = [(rvX ds).kind, (rvX ds).round, (rvX ds).node, (rvX ds).value] := by
  unfold readR at h ⊢
  split at h
  · rename_i hp
    obtain ⟨h1, h2, h3⟩ := packed_of hp
    rw [readL_length] at h
    have h4 : (ds.take (ds.length - 2)).getD 0 0 = 4 := by omega
    rw [h4] at h3
    rw [List.length_take] at h3 h1
    have hl : ds.length = 11 := by omega
    obtain ⟨d0, d1, d2, d3, d4, d5, d6, d7, d8, d9, d10, rfl⟩ := len11 hl
    refine ⟨hl, h4, ?_⟩
    rw [if_pos hp, h4]
    rfl
  · simp at h

theorem rv_not_four {ds : List Int} (h : ¬ (readR (ds.take (ds.length - 2))).length = 4) : rvOk ds = false := by
  refine decide_eq_false ?_
  rintro ⟨hl, _, h4, _⟩
  apply h
  obtain ⟨d0, d1, d2, d3, d4, d5, d6, d7, d8, d9, d10, rfl⟩ := len11 hl
  simp only [List.getD_cons_zero] at h4
  subst h4
  rfl

theorem rv_pack {ds : List Int} (hu : ∀ i, 0 ≤ ds.getD i 0 ∧ ds.getD i 0 ≤ 255) (hl : ds.length = 11) (h4 : ds.getD 0 0 = 4) : decide (vpR (rvX ds) = ds) = rvOk ds := by
  obtain ⟨d0, d1, d2, d3, d4, d5, d6, d7, d8, d9, d10, rfl⟩ := len11 hl
  simp only [List.getD_cons_zero] at h4
  subst h4
  have u1 := hu 1; have u2 := hu 2; have u3 := hu 3; have u4 := hu 4; have u5 := hu 5; have u6 := hu 6; have u7 := hu 7; have u8 := hu 8; have u9 := hu 9; have u10 := hu 10
  simp only [List.getD_cons_zero, List.getD_cons_succ] at u1 u2 u3 u4 u5 u6 u7 u8 u9 u10
  have ev : vpL (rvX [4, d1, d2, d3, d4, d5, d6, d7, d8, d9, d10]) = [4, d1, d2, d3, d4, d5, d6, d7, d8] := by
    show (4 : Int) :: (put2 (get2 d1 d2) ++ (put2 (get2 d3 d4) ++ (put2 (get2 d5 d6) ++ (put2 (get2 d7 d8) ++ [])))) = _
    rw [put_get d1 d2 u1 u2, put_get d3 d4 u3 u4, put_get d5 d6 u5 u6, put_get d7 d8 u7 u8]
    rfl
  have et : List.take 9 [(4 : Int), d1, d2, d3, d4, d5, d6, d7, d8, d9, d10] = [4, d1, d2, d3, d4, d5, d6, d7, d8] := rfl
  unfold rvOk vpR
  rw [et]
  by_cases h0 : voteF (rvX [4, d1, d2, d3, d4, d5, d6, d7, d8, d9, d10]) = 0
  · rw [if_pos h0]
    unfold vpB
    rw [ev]
    have hb := sumL_bounds [4, d1, d2, d3, d4, d5, d6, d7, d8]
    generalize sumL [4, d1, d2, d3, d4, d5, d6, d7, d8] = S at hb
    refine decide_eq_decide.2 ?_
    simp only [put2, List.cons_append, List.nil_append, List.cons.injEq, true_and, and_true, List.getD_cons_zero, List.getD_cons_succ, h0, List.length_cons, List.length_nil]
    constructor
    · rintro ⟨e1, e2⟩; omega
    · intro e; omega
  · rw [if_neg h0]
    simp [h0]

theorem rvX_take {ds : List Int} (hl : ds.length = 11) : rvX ds = ⟨(readL (ds.take 9) 4).getD 0 0, (readL (ds.take 9) 4).getD 1 0, (readL (ds.take 9) 4).getD 2 0, (readL (ds.take 9) 4).getD 3 0⟩ := by
  obtain ⟨d0, d1, d2, d3, d4, d5, d6, d7, d8, d9, d10, rfl⟩ := len11 hl
  rfl

end Go.Proofs.Ytpdbjjklcejimaa

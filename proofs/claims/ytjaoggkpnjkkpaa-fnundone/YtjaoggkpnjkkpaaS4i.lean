/- slices.Backward over a list of lists of undos: what it hands on, from the last one on. No condition. -/
import Derived.Test.YtjaoggkpnjkkpaaS4p
import Derived.RangeFuncNested
import Derived.RangeFuncBound
import Derived.RangeFuncCalls
import Derived.RangeFuncLeaves
import Derived.RangeFuncBox
import Derived.RangeFuncWrites
import Derived.Shelf.Abstract
import Derived.Shelf.RegionOpen
import Derived.WalkKit
import Derived.OwnWalkIn
import Derived.TacticsInMore
import Derived.LoopNIn
import Derived.LoopIn
namespace Go.Proofs.Ytjaoggkpnjkkpaa
open Go.RowKit Go.Shelf
set_option linter.unusedVariables false
set_option linter.unusedSimpArgs false
attribute [local go_sem] Oper.semAt_some

/-- What is handed on: a place, and the list there with where it lies. -/
def UX (w : World) : Type := { x : Nat × USP // UndoRow w x.2.a x.2.d ∧ x.2.d.length ≤ 1048576 }
def UX.encs {w : World} (x : UX w) : Array Value := #[.int .i64 (x.1.1 : Int), .slice x.1.2.a x.1.2.d.length x.1.2.cap]

/-- What lies below n₀ lies as it lay, but for block ba. -/
def KeepB (n₀ ba : Nat) (W W' : World) : Prop := ∀ k, k < n₀ → k ≠ ba → W'.heap[k]? = W.heap[k]?
theorem keepB_t {n₀ ba : Nat} {A B C : World} (h : KeepB n₀ ba A B) (h' : KeepB n₀ ba B C) : KeepB n₀ ba A C := fun k hk hn => (h' k hk hn).trans (h k hk hn)
theorem keepB_b {n₀ ba : Nat} {w : World} (hn : n₀ ≤ w.heap.size) (W : World) (l : Nat) (o o' : Obj) (hl : w.heap.size ≤ l) (h1 : W.heap[l]? = some o) (h2 : o.isCells = false) (h3 : o.isWalk = false) : KeepB n₀ ba W (W.putObj l o') :=
  fun k hk _ => (Below.block (belowK_b (w := w) (Nat.le_refl _) W l o o' hl h1 h2 h3) k (by omega))
theorem KeepB.cell {n₀ ba b j : Nat} {W W' : World} {v : Value} (h : KeepB n₀ ba W W') (hb : b < n₀) (hn : b ≠ ba) (hc : W.cell? ⟨b, j, none⟩ = some v) : W'.cell? ⟨b, j, none⟩ = some v := by
  have e := h b hb hn
  simp only [World.cell?] at hc ⊢
  rw [e]
  exact hc

section
variable {w0 : World} (Pj : Nat → USP) (hP : ∀ j, UndoRow w0 (Pj j).a (Pj j).d ∧ (Pj j).d.length ≤ 1048576)

def mkX (j : Nat) : UX w0 := ⟨(j, Pj j), hP j⟩
def allX (len : Nat) : List (UX w0) := (List.range len).map (mkX Pj hP)

theorem allX_drop {len m : Nat} (h : m < len) : (allX Pj hP len).drop m = mkX Pj hP m :: (allX Pj hP len).drop (m + 1) := by
  have hl : m < (allX Pj hP len).length := by simpa [allX] using h
  rw [List.drop_eq_getElem_cons hl]
  congr 1
  simp [allX]

theorem allX_length (len : Nat) : (allX Pj hP len).length = len := by simp [allX]

set_option maxRecDepth 100000 in
set_option maxHeartbeats 2000000 in
theorem back1_in (n : Nat) (hn : 1 ≤ n) (l Bs n₀ ba len cap : Nat) (a : Option Addr) (hB1 : Bs < n₀) (hB2 : Bs ≠ ba) (hlen : len ≤ 20) (J Jx : List (UX w0) → World → Prop)
    (hY : ∀ pre x W, J pre W → pre.length < len → YieldAt Fence.wide (n - 1) Try.prog l (UX.encs x) W fun e W' =>
      (e = .returned (.bool true) ∧ J (pre ++ [x]) W' ∧ KeepB n₀ ba W W') ∨ (e = .returned (.bool false) ∧ Jx (pre ++ [x]) W'))
    (W : World) (hBs : W.cell? ⟨Bs, 0, none⟩ = some (.slice a len cap)) (hc : ∀ j, j < len → ∃ b off, a = some ⟨b, off, none⟩ ∧ b < n₀ ∧ b ≠ ba ∧ W.cell? ⟨b, off + j, none⟩ = some (.slice (Pj j).a (Pj j).d.length (Pj j).cap)) (h0 : J [] W) :
    CallsIn Fence.wide n Try.prog 85 #[.func (.yield l) #[] #[], .pointer (some ⟨Bs, 0, none⟩)] W fun e W' => (∃ v, e = .returned v) ∧
      ((∃ ys, ys = (allX Pj hP len).reverse ∧ J ys W') ∨ (∃ pre, (∃ m, pre = ((allX Pj hP len).drop m).reverse) ∧ Jx pre W')) := by
  refine callsIn_of_wp Try.func85 rfl trivial ?_ rfl
  simp only [Try.ntmps85, List.size_toArray, List.length_cons, List.length_nil, Nat.reduceAdd, Nat.reduceSub, Array.replicate_succ, Array.replicate_zero, List.push_toArray, List.append_toArray, List.nil_append, List.cons_append]
  gi_wp2
  gi_loopw [3] (fun i wr => ∃ m : Nat, m ≤ len ∧ i = .int .i64 ((m : Int) - 1) ∧ J (((allX Pj hP len).drop m).reverse) wr ∧ KeepB n₀ ba W wr) (fun i _ => (intOf i + 1).toNat)
  case atStart => exact ⟨len, Nat.le_refl _, rfl, by rw [List.drop_of_length_le (by rw [allX_length]; exact Nat.le_refl _)]; exact h0, fun _ _ _ => rfl⟩
  case round =>
    obtain ⟨m, hm, rfl, hJs, hK⟩ := hrel
    cases m with
    | zero =>
      gi_wp2
      go_end0
      exact ⟨⟨_, rfl⟩, .inl ⟨_, rfl, by simpa using hJs⟩⟩
    | succ m =>
      obtain ⟨b, off, rfl, hb1, hb2, hcm⟩ := hc m (by omega)
      have hBs' := hK.cell hB1 hB2 hBs
      have hcm' := hK.cell hb1 hb2 hcm
      have hx1 : ((m + 1 : Nat) : Int) - 1 = (m : Int) := by omega
      rw [hx1]
      obtain ⟨fn, tmps, assign, body, hy, hR⟩ := hY _ (mkX Pj hP m) wr hJs (by rw [List.length_reverse, List.length_drop, allX_length]; omega)
      have HD : Hid (((allX Pj hP len).drop m).reverse = ((allX Pj hP len).drop (m + 1)).reverse ++ [mkX Pj hP m]) := by
        show _ = _
        rw [allX_drop Pj hP (by omega), List.reverse_cons]
      dsimp only [UX.encs, mkX] at hy
      gi_wp2
      refine hR.mono ?_
      rintro e W3 (⟨rfl, hJ3, hk3⟩ | ⟨rfl, hJx3⟩)
      · gi_wp2
        go_roundw
        case rel => exact ⟨m, by omega, by first | rfl | go_num, by rw [HD.out]; exact hJ3, keepB_t hK hk3⟩
        case measure => simp [intOf] <;> omega
      · gi_wp2
        refine bodyPost_ret (results_none rfl _ _ _) rfl ?_
        exact ⟨⟨_, rfl⟩, .inr ⟨_, ⟨m, HD.out.symm⟩, hJx3⟩⟩

/-- The function hands back a closure over a box of the list. -/
theorem back_any (a : Option Addr) (len cap : Nat) (w : World) :
    Calls Try.prog 57 #[.slice a len cap] w fun e w' => e = .returned (.func (.func 85) #[] #[.pointer (some ⟨w.heap.size, 0, none⟩)]) ∧ w' = w.alloc (.cells #[.slice a len cap] 39) := by
  have hmf : ∀ (fn : Fn) (first cap : Array Value) (w : World), (Instr.makeFunc fn first cap).run Try.prog w = .ok (.func fn first cap) w := fun _ _ _ _ => rfl
  go_enter Try.func57, Try.ntmps57
  go_wp2
  go_ret
  exact ⟨rfl, rfl⟩

theorem back_stops (n : Nat) (hn : 1 ≤ n) (Bs n₀ ba len cap : Nat) (a : Option Addr) (hB1 : Bs < n₀) (hB2 : Bs ≠ ba) (hlen : len ≤ 20) (w : World) (hn₀ : n₀ ≤ w.heap.size) (hBs : w.cell? ⟨Bs, 0, none⟩ = some (.slice a len cap))
    (hc : ∀ j, j < len → ∃ b off, a = some ⟨b, off, none⟩ ∧ b < n₀ ∧ b ≠ ba ∧ w.cell? ⟨b, off + j, none⟩ = some (.slice (Pj j).a (Pj j).d.length (Pj j).cap)) :
    SeqStopsK Fence.wide n Try.prog 85 #[.pointer (some ⟨Bs, 0, none⟩)] (fun x : UX w0 => UX.encs x) (KeepB n₀ ba) (fun ys => ys = (allX Pj hP len).reverse) (fun pre => ∃ m, pre = ((allX Pj hP len).drop m).reverse) len w := fun l J Jx W hW _ _ hY h0 => by
  have hBs' := (hW.cell (p := ⟨Bs, 0, none⟩) (by dsimp only; omega)).trans hBs
  refine back1_in Pj hP n hn l Bs n₀ ba len cap a hB1 hB2 hlen J Jx hY W hBs' (fun j hj => ?_) h0
  obtain ⟨b, off, e, h1, h2, h3⟩ := hc j hj
  exact ⟨b, off, e, h1, h2, (hW.cell (p := ⟨b, off + j, none⟩) (by dsimp only; omega)).trans h3⟩
end

/-- A block of cells, or a list that is owned, abides what the loop's book-keeping turns. -/
theorem Blk.turned {w w' : World} {b : Nat} {t : TypeId} {cs : Array Value} {row : Option Nat} (h : Blk w b t cs) (hg : w.grownBy w' row) (hr : ∀ r, row = some r → ∃ o : Obj, w.heap[r]? = some o ∧ o.isCells = false) : Blk w' b t cs := by
  refine h.grown hg ?_
  intro e
  obtain ⟨o, ho, hc⟩ := hr b e.symm
  unfold Blk at h
  rw [h] at ho
  simp only [Option.some.injEq] at ho
  subst ho
  simp [Obj.isCells] at hc
theorem own_turned {w w' : World} {base e s n : Nat} {v : Value} {xs : List Value} {row : Option Nat} (h : w.ownsRow base e s v n xs) (hg : w.grownBy w' row) (hr : ∀ r, row = some r → ∃ o : Obj, w.heap[r]? = some o ∧ o.isCells = false) : w'.ownsRow base e s v n xs := by
  refine h.kept hg ?_
  rcases h.2 with ⟨rfl, _⟩ | ⟨g, cap, cur, rfl, _, hh, _⟩
  · exact Or.inl rfl
  · right
    intro e
    obtain ⟨o, ho, hc⟩ := hr g e.symm
    rw [hh] at ho
    simp only [Option.some.injEq] at ho
    subst ho
    simp [Obj.isCells] at hc

end Go.Proofs.Ytjaoggkpnjkkpaa

/- The helpers of the laws on undos, in one form. No condition. -/
import Derived.Test.YtjaoggkpnjkkpaaU3
import Derived.Test.YtjaoggkpnjkkpaaD4s
namespace Go.Proofs.Ytjaoggkpnjkkpaa
open Go.RowKit
set_option linter.unusedVariables false
set_option linter.unusedSimpArgs false

theorem szUndos_u (a : Option Addr) (n cap : Nat) (c : Int) (w : World) (hn : n ≤ 9223372036854775807) (h0 : 0 ≤ c) (h1 : c ≤ 1048576) :
    Calls Try.prog 34 #[.slice a n cap, .int .i64 c] w fun e w' => ∃ s : Int, e = .returned (.int .i64 s) ∧ (¬ s < 0 → (n : Int) + s = c) ∧ Below w.heap.size w w' := by
  refine (szUndoS_any a n cap c w hn h0 (by omega)).mono ?_
  rintro e w' ⟨rfl, rfl⟩
  refine ⟨_, rfl, ?_, Below.refl _ _⟩
  split <;> omega

theorem toUndos_u (a : Option Addr) (cap : Nat) (zs : List UndoD) (w : World) (h : UndoRow w a zs) (hl : zs.length ≤ 1048576) :
    Calls Try.prog 35 #[.slice a zs.length cap] w fun e w' => ∃ a' c', e = .returned (.slice a' zs.length c') ∧ OwnS 96 3 w.heap.size w'.heap.size w' (.slice a' zs.length c') zs.length (undoCells zs) ∧ Below w.heap.size w w' := by
  refine (toUndoS_any a cap zs w h hl).mono ?_
  rintro e w' ⟨g, c, rfl, o, hb⟩
  exact ⟨_, _, rfl, OwnS.of o, hb⟩

theorem markUndos_u (lo hi : Nat) (v : Value) (n : Nat) (xs : List Value) (c : Int) (w : World) (h : OwnS 96 3 lo hi w v n xs) (hn : n ≤ 1048576) (h0 : 0 ≤ c) (h1 : c ≤ 16777216) :
    Calls Try.prog 38 #[v, .int .i64 c] w fun e w' => ∃ m, e = .returned (.int .i64 m) ∧ (c ≤ m ∧ m ≤ c + 3145728) ∧ Only lo hi w w' := by
  refine (markUndoS_any lo v n xs c w h.1 (by omega) h0 (by omega)).mono ?_
  rintro e w' ⟨rfl, o, hg⟩
  exact ⟨_, rfl, by omega, h.grown hg⟩

end Go.Proofs.Ytjaoggkpnjkkpaa

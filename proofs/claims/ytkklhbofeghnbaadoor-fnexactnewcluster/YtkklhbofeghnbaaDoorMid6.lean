/- A region that draws, told by what it leaves: values in its temporaries, and a world of which something is known; worlds in which some blocks alone may have turned. No condition. -/
import Derived.Test.YtkklhbofeghnbaaDoorQuiet1
import Derived.Test.YtkklhbofeghnbaaDoorJA
namespace Go.Proofs.YtkklhbofeghnbaaDoor
open Go.RowKit
set_option linter.unusedVariables false

def putAll : Act → List (Option Tmp) → List Value → Act
  | a, d :: ds, v :: vs => putAll (a.put d v) ds vs
  | a, _, _ => a

section
variable {P : Program} {ops : Array Oper} {Q : Exit → Act → World → Prop}

theorem region_vals {id : Nat} {a : Act} {w : World} (ds : List (Option Tmp)) (R : List Value → World → Prop)
    (hreg : (Code.region id ops true).wp P (fun e a' w' => e = .normal ∧ ∃ vs, R vs w' ∧ a' = putAll a ds vs) a w) (himp : ∀ vs w', R vs w' → Q .normal (putAll a ds vs) w') : (Code.region id ops true).wp P Q a w := by
  refine Code.wp_mono ?_ hreg
  rintro e a' w' ⟨rfl, vs, hR, rfl⟩
  exact himp vs w' hR

end

/-- The worlds that came out of w, of whose blocks those of F alone may have turned. -/
structure LatO (F : List Nat) (w : World) where
  val : World
  isOut : Out F w val
theorem lato_cell {F : List Nat} {w : World} {b o : Nat} {v : Value} (h : w.cell? ⟨b, o, none⟩ = some v) (hF : b ∉ F) : ∀ u : LatO F w, u.val.cell? ⟨b, o, none⟩ = some v := fun u => by
  have hb := World.block_lt_of_cell? w _ h
  have e := u.isOut.block b hb hF
  unfold World.cell? at h ⊢
  simp only at h ⊢
  rw [e]
  exact h

end Go.Proofs.YtkklhbofeghnbaaDoor

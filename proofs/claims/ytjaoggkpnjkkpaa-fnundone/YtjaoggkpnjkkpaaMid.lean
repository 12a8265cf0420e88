/- A region that draws, told by what it leaves: values in its temporaries, and a world of which something is known. No condition. -/
import Derived.Test.YtjaoggkpnjkkpaaQuiet1
import Derived.Test.YtjaoggkpnjkkpaaBlk
import Derived.Test.YtjaoggkpnjkkpaaU3
import Derived.Lib.SmallJoins
namespace Go.Proofs.Ytjaoggkpnjkkpaa
open Go.RowKit
set_option linter.unusedVariables false

def putAll : Act → List (Option Tmp) → List Value → Act
  | a, d :: ds, v :: vs => putAll (a.put d v) ds vs
  | a, _, _ => a

section
variable {P : Program} {ops : Array Oper} {Q : Exit → Act → World → Prop}

theorem region_vals {id : Nat} {a : Act} {w : World} (ds : List (Option Tmp)) (R : List Value → World → Prop)
    (hreg : (Code.region id ops true).wp P (fun e a' w' => e = .normal ∧ ∃ vs, R vs w' ∧ a' = putAll a ds vs) a w) (himp : ∀ vs w', R vs w' → Q .normal (putAll a ds vs) w') : (Code.region id ops true).wp P Q a w := by
  refine Code.wp_mono ?_ hreg
  rintro e a' w' ⟨rfl, vs, hR, rfl⟩
  exact himp vs w' hR

end

theorem Blk.set {w : World} {b : Nat} {t : TypeId} {cs : Array Value} (h : Blk w b t cs) (j : Nat) (v : Value) : Blk (w.setCell ⟨b, j, none⟩ v) b t (cs.setIfInBounds j v) := by
  have := Go.Joins.block_setCell (i := j) (v := v) h
  unfold Blk
  simpa using this

theorem OwnS.setOther {e size lo hi n g j : Nat} {w : World} {v u : Value} {xs : List Value} (o : OwnS e size lo hi w v n xs) (hne : ∀ k, v.ownBlock = some k → k ≠ g) : OwnS e size lo hi (w.setCell ⟨g, j, none⟩ u) v n xs :=
  ⟨own_set_other o.1 hne, o.2⟩

end Go.Proofs.Ytjaoggkpnjkkpaa

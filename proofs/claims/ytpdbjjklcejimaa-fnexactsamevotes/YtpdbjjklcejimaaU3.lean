/- Memory that is owned within bounds, and how it lasts; the helpers of the laws in one form. No condition. -/
import Derived.Test.YtpdbjjklcejimaaD3f
import Derived.Test.YtpdbjjklcejimaaD2m
namespace Go.Proofs.Ytpdbjjklcejimaa
open Go.RowKit
set_option linter.unusedVariables false
set_option linter.unusedSimpArgs false

/-- v owns its row, which lies in blocks from lo up to hi. -/
def OwnS (e size lo hi : Nat) (w : World) (v : Value) (n : Nat) (xs : List Value) : Prop := w.ownsRow lo e size v n xs ∧ ∀ g, v.ownBlock = some g → g < hi

theorem OwnS.of {e size lo n : Nat} {w : World} {v : Value} {xs : List Value} (o : w.ownsRow lo e size v n xs) : OwnS e size lo w.heap.size w v n xs := ⟨o, fun g hg => (o.lt g hg).2⟩
theorem OwnS.below {e size lo hi n : Nat} {w w' : World} {v : Value} {xs : List Value} (o : OwnS e size lo hi w v n xs) (hb : Below w.heap.size w w') : OwnS e size lo hi w' v n xs := ⟨own_below o.1 hb, o.2⟩
theorem OwnS.only {e size lo hi n lo' hi' : Nat} {w w' : World} {v : Value} {xs : List Value} (o : OwnS e size lo hi w v n xs) (h : Only lo' hi' w w') (hh : hi' ≤ lo) : OwnS e size lo hi w' v n xs := ⟨own_only o.1 h hh, o.2⟩
theorem OwnS.lies {e size lo hi n c : Nat} {w : World} {a : Option Addr} {xs : List Value} (o : OwnS e size lo hi w (.slice a n c) n xs) : Lies w a xs := Lies.own o.1
theorem OwnS.wide {e size lo hi n lo' hi' : Nat} {w : World} {v : Value} {xs : List Value} (o : OwnS e size lo hi w v n xs) (h : lo' ≤ lo) (hh : hi ≤ hi') : OwnS e size lo' hi' w v n xs := ⟨own_base o.1 h, fun g hg => Nat.lt_of_lt_of_le (o.2 g hg) hh⟩
theorem OwnS.grown {e size lo hi n : Nat} {w w' : World} {v : Value} {xs : List Value} (o : OwnS e size lo hi w v n xs) (hg : w.grownBy w' v.ownBlock) : Only lo hi w w' := only_of_grown hg (fun g h => ⟨(o.1.lt g h).1, o.2 g h⟩)
/-- Another list's marking leaves it, where the two lie in two blocks. -/
theorem OwnS.beside {e size lo hi n : Nat} {w w' : World} {v v' : Value} {xs : List Value} (o : OwnS e size lo hi w v n xs) (hg : w.grownBy w' v'.ownBlock) (h : v.ownBlock = none ∨ v.ownBlock ≠ v'.ownBlock) : OwnS e size lo hi w' v n xs := ⟨o.1.kept hg h, o.2⟩

end Go.Proofs.Ytpdbjjklcejimaa

/- One operation of a region that draws, which only reads, whatever it is: it yields the same value in every world of the class. No condition. -/
import Derived.Test.YteoghlebijfbaaaText
namespace Go.Proofs.Yteoghlebijfbaaa
open Go.RowKit
set_option linter.unusedVariables false

section
variable {P : Program} {ops : Array Oper} {Q : Exit → Act → World → Prop} {S : World → Prop}

theorem quiet_at (i : Nat) (d : Option Tmp) (v : Value) (fuel : Nat) {F : Nat} {l : Array Bool} {a : Act} {w : World} (hF : F = fuel + 1) (hs : Region.noSelect ops = true)
    (hd : (ops[i]?).map (·.dst) = some d) (hok : okSeg ops [i] l = true) (hw : (ops[i]?).map (fun o => Region.wanted o (yielded ops a.tmps)) = some true)
    (hrun : ∀ u, S u → (ops[i]?).map (fun o => (execOp a.eval o).run P u) = some (.ok (.value v) u)) (hS : S w)
    (h : wpAnyH P .any ops (NoPanic Q) S fuel (upTo [i] l) (a.put d v) w) : wpAnyH P .any ops (NoPanic Q) S F l a w := by
  subst hF
  cases ho : ops[i]? with
  | none => rw [ho] at hd; simp at hd
  | some o =>
    rw [ho] at hd hw hrun
    simp only [Option.map_some, Option.some.injEq] at hd hw hrun
    subst hd
    simp only [okSeg, Bool.and_eq_true, Bool.and_true] at hok
    exact wpAnyH_take (i := i) (oi := o) (v := v) ho hs hok.1 hok.2 (fun c a w => noPanic_put c a _ _ w) (Or.inl ⟨hw, fun u hu => hrun u hu⟩) hS h

end

end Go.Proofs.Yteoghlebijfbaaa

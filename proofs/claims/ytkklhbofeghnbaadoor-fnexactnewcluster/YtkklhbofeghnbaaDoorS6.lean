/- Rounds in plain words. -/
import Derived.Test.YtkklhbofeghnbaaDoorJA
import Derived.Test.YtkklhbofeghnbaaDoorK6
namespace Go.Proofs.YtkklhbofeghnbaaDoor
open Go.RowKit
set_option linter.unusedVariables false
set_option linter.unusedSimpArgs false
set_option maxRecDepth 100000

def rnd0 : RoundE := ⟨[], []⟩
def repA (rs : List RoundE) (r n : Nat) : Int := (rs.getD r rnd0).rep.getD n 0
def proA (rs : List RoundE) (r n : Nat) : Int := (rs.getD r rnd0).pro.getD n 0


end Go.Proofs.YtkklhbofeghnbaaDoor

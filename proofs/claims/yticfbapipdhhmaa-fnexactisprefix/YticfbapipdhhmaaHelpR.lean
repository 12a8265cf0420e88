/- What the helpers of the laws on whole answers do (a code beside a number, bytes or a list of numbers): they tell alike answers alike, mark an answer's memory and find the marks. No condition but that the lists can be read and are not longer than 2^40. -/
import Derived.Test.YticfbapipdhhmaaHelpB
import Derived.Test.YticfbapipdhhmaaHelpI
namespace Go.Proofs.Yticfbapipdhhmaa
open Go.RowKit
set_option linter.unusedVariables false
set_option linter.unusedSimpArgs false

end Go.Proofs.Yticfbapipdhhmaa

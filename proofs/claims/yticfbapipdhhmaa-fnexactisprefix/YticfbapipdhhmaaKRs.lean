/- What the helpers of the laws do with lists of rounds, in the form of kinds: count, compare, copy. No condition. -/
import Derived.Test.YticfbapipdhhmaaKR
namespace Go.Proofs.Yticfbapipdhhmaa
open Go.RowKit
open Go.BigFrame
set_option linter.unusedVariables false
set_option linter.unusedSimpArgs false

end Go.Proofs.Yticfbapipdhhmaa

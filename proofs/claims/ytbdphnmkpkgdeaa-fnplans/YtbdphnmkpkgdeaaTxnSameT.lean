/- SameTxns of the model. No condition. -/
import Derived.Test.YtbdphnmkpkgdeaaTxnSameI
import Derived.Test.YtbdphnmkpkgdeaaTxnSameS
namespace Go.Proofs.Ytbdphnmkpkgdeaa
open Go.RowKit
open Go.BigFrame
set_option linter.unusedVariables false
set_option linter.unusedSimpArgs false

end Go.Proofs.Ytbdphnmkpkgdeaa

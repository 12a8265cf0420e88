/- Texts joined, with what the law reaches alone. -/
import Derived.Test.YtdcjefgafckmgaaGreatDoorSAI
namespace Go.Proofs.YtdcjefgafckmgaaGreatDoor
open Go.RowKit
open Go.BigFrame
set_option linter.unusedVariables false
set_option maxRecDepth 100000
set_option linter.unusedSimpArgs false
end Go.Proofs.YtdcjefgafckmgaaGreatDoor
namespace Go.Proofs.YtdcjefgafckmgaaGreatDoor
open Go.RowKit
open Go.BigFrame
set_option linter.unusedVariables false
set_option maxRecDepth 100000
set_option linter.unusedSimpArgs false
end Go.Proofs.YtdcjefgafckmgaaGreatDoor
namespace Go.Proofs.YtdcjefgafckmgaaGreatDoor
open Go.RowKit
open Go.BigFrame
set_option linter.unusedVariables false
set_option maxRecDepth 100000
set_option linter.unusedSimpArgs false
end Go.Proofs.YtdcjefgafckmgaaGreatDoor

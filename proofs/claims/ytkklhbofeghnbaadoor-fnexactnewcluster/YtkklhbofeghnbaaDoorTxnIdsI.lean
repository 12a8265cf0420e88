/- IdsOf of the program and of its model: the same code, the same numbers. No condition. -/
import Derived.Test.YtkklhbofeghnbaaDoorTxnIds
namespace Go.Proofs.YtkklhbofeghnbaaDoor
open Go.RowKit
open Go.BigFrame
set_option linter.unusedVariables false
set_option linter.unusedSimpArgs false

theorem idsC_few {ds : List TxnD} (h : idsC ds = 0) : ds.length ≤ 60 := by
  unfold idsC at h
  split at h
  · simp at h
  · omega

end Go.Proofs.YtkklhbofeghnbaaDoor

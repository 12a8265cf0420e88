/- What the helpers of the laws on lists of int64 do: they copy, compare, mark and look for marks. Each is told for whatever list that can be read; the copying one for lists of at most 1048576 numbers. -/
import Derived.Test.YticfbapipdhhmaaProg
import Derived.Test.YticfbapipdhhmaaBase
namespace Go.Proofs.Yticfbapipdhhmaa
open Go.RowKit
set_option linter.unusedVariables false
set_option linter.unusedSimpArgs false

theorem infoI64 : (Try.prog.info? 2).map (fun i => (i.zero, i.size, i.bytes)) = some (some (.int .i64 0), 1, 8) := by kernel_rfl

end Go.Proofs.Yticfbapipdhhmaa

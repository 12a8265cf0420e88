/- Texts joined, with what the law reaches alone. -/
import Derived.Test.YtmgkjcobdmdjmaaGreatDoorYNJ
namespace Go.Proofs.YtmgkjcobdmdjmaaGreatDoor
open Go.RowKit
open Go.BigFrame
set_option linter.unusedVariables false
set_option maxRecDepth 100000
set_option linter.unusedSimpArgs false
end Go.Proofs.YtmgkjcobdmdjmaaGreatDoor
namespace Go.Proofs.YtmgkjcobdmdjmaaGreatDoor
open Go.RowKit
open Go.BigFrame
set_option linter.unusedVariables false
set_option maxRecDepth 100000
set_option linter.unusedSimpArgs false
end Go.Proofs.YtmgkjcobdmdjmaaGreatDoor
namespace Go.Proofs.YtmgkjcobdmdjmaaGreatDoor
open Go.RowKit
open Go.BigFrame
set_option linter.unusedVariables false
set_option maxRecDepth 100000
set_option linter.unusedSimpArgs false
set_option maxHeartbeats 1000000 in
theorem l6Open_any (w : World) :
    Calls Tryz.prog 178 #[] w fun e w' => ∃ a c, e = .returned (.slice a 3 c) ∧ intK.Own w' (.slice a 3 c) [3, 3, 3] ∧ (∀ k ∈ intK.fp (.slice a 3 c) [3, 3, 3], w.heap.size ≤ k) ∧ Below w.heap.size w w' := by
  have hB : Below w.heap.size w (w.alloc (.cells #[.int .i64 3, .int .i64 3, .int .i64 3] 2)) := by go_grown
  have ho := World.ownsRow_lit (e := 2) (size := 1) w #[.int .i64 3, .int .i64 3, .int .i64 3] 3 (Nat.le_refl _) (by decide) rfl
  obtain ⟨O, G⟩ := list_own (zs := [3, 3, 3]) (n := 3) rfl ho
  have HO : Hid (_ ∧ _) := And.intro O G
  clear ho O G
  go_enter Tryz.func178, Tryz.ntmps178
  go_wp2
  go_ret
  exact ⟨_, _, rfl, HO.out.1, HO.out.2, hB⟩

end Go.Proofs.YtmgkjcobdmdjmaaGreatDoor

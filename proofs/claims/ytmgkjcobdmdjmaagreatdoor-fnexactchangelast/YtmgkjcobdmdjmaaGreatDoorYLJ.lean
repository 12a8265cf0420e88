/- Texts joined, with what the law reaches alone. -/
import Derived.Test.YtmgkjcobdmdjmaaGreatDoorYLI
namespace Go.Proofs.YtmgkjcobdmdjmaaGreatDoor
open Go.RowKit
open Go.BigFrame
set_option linter.unusedVariables false
set_option maxRecDepth 100000
set_option linter.unusedSimpArgs false
theorem ins_low {p : InstQ} (h : insF p.e = 0) : (∀ t ∈ p.batch, 0 < t.acts.length) ∧ (∀ r ∈ p.rounds, 0 < r.rep.length ∧ 0 < r.pro.length) ∧ 0 < p.dec.length := by
  obtain ⟨h1, h2, h3, _, h5⟩ := ins_ok h
  obtain ⟨h6, _⟩ := ins_zero h
  obtain ⟨_, _, _, h7, h8⟩ := shp_zero h6
  refine ⟨?_, fun r hr => ?_, by have : p.dec.length = 3 := h3; omega⟩
  · cases hh : p.has with
    | true => exact bat_pos (h8 hh)
    | false =>
      have : p.batch.map TxnQ.e = [] := h7 hh
      intro t ht
      have : p.batch = [] := List.map_eq_nil_iff.1 this
      rw [this] at ht
      simp at ht
  · have := h1 (RoundQ.e r) (List.mem_map.2 ⟨r, hr, rfl⟩)
    have h9 : r.rep.length = 3 ∧ r.pro.length = 3 := this
    omega

end Go.Proofs.YtmgkjcobdmdjmaaGreatDoor
namespace Go.Proofs.YtmgkjcobdmdjmaaGreatDoor
open Go.RowKit
open Go.BigFrame
set_option linter.unusedVariables false
set_option maxRecDepth 100000
set_option linter.unusedSimpArgs false
end Go.Proofs.YtmgkjcobdmdjmaaGreatDoor
namespace Go.Proofs.YtmgkjcobdmdjmaaGreatDoor
open Go.RowKit
open Go.BigFrame
set_option linter.unusedVariables false
set_option maxRecDepth 100000
set_option linter.unusedSimpArgs false
end Go.Proofs.YtmgkjcobdmdjmaaGreatDoor
namespace Go.Proofs.YtmgkjcobdmdjmaaGreatDoor
open Go.RowKit
open Go.BigFrame
set_option linter.unusedVariables false
set_option maxRecDepth 100000
set_option linter.unusedSimpArgs false
end Go.Proofs.YtmgkjcobdmdjmaaGreatDoor

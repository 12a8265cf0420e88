/- A list of transactions that came in, opened. No condition. -/
import Derived.Test.YtpdbjjklcejimaaOpen2
import Derived.Test.YtpdbjjklcejimaaD2s
namespace Go.Proofs.Ytpdbjjklcejimaa
open Go.RowKit Go.Deep Go.ChangeShapes Go.WideShapes
set_option linter.unusedVariables false
set_option linter.unusedSimpArgs false

section
variable {H : Type} {enc : TypeId × Value → H} {w : World} {base : Nat} {spare : Nat → Bool} {held : Bool}

theorem list_pre2 {α β : Type} (f : β → α) (q : β → Prop) (l : List α) (h : ∀ x ∈ l, ∃ b, x = f b ∧ q b) : ∃ bs : List β, l = bs.map f ∧ ∀ b ∈ bs, q b := by
  induction l with
  | nil => exact ⟨[], rfl, by simp⟩
  | cons x l ih =>
    obtain ⟨bs, rfl, hq⟩ := ih (fun x hx => h x (by simp [hx]))
    obtain ⟨b, rfl, hb⟩ := h x (by simp)
    exact ⟨b :: bs, rfl, by intro c hc; rcases List.mem_cons.1 hc with rfl | hc; exact hb; exact hq c hc⟩

end

end Go.Proofs.Ytpdbjjklcejimaa

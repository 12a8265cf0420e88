/- What the small helpers of the laws do: two lists of bytes or of numbers that read alike are told alike. -/
import Derived.Test.YtjaoggkpnjkkpaaDoorHelpR
namespace Go.Proofs.YtjaoggkpnjkkpaaDoor
open Go.RowKit
set_option linter.unusedVariables false
set_option linter.unusedSimpArgs false

/-- The string of a list of bytes. -/
def strOf (zs : List Int) : ByteArray := zs.foldl (fun r n => r.push (UInt8.ofNat n.toNat)) ByteArray.empty

theorem conv_bytes (a : Option Addr) (cap : Nat) (zs : List Int) (w : World) (h : Row .u8 w a zs) : (convert 22 9 (.slice a zs.length cap)).run Tryd.prog w = .ok (.string (strOf zs)) w := by
  rw [run_convert_bytes_string w 22 9 5 a zs.length cap Tryd.underlying22 Tryd.underlying5 Tryd.underlying9]
  cases a with
  | none =>
    have hz : zs = [] := by
      cases zs with
      | nil => rfl
      | cons x l => obtain ⟨b, off, e, _⟩ := h 0 (by simp); simp at e
    subst hz
    simp [Conv.bytesToString, strOf]
  | some x =>
    refine run_bytesToString w x zs.length cap zs ?_
    have hl := run_loadCells_list (P := Tryd.prog) (w := w) x (zs.map (Value.int .u8)) (by
      intro j v hj
      have hlt : j < zs.length := by
        have := (List.getElem?_eq_some_iff.1 hj).1
        simpa using this
      obtain ⟨b, off, e, _, hc⟩ := h j hlt
      simp only [Option.some.injEq] at e
      subst e
      rw [Addr.add_lit, hc]
      simp [hlt] at hj
      simp [List.getD, hlt, hj])
    simpa using hl

set_option maxHeartbeats 1000000 in
theorem lwBytes_true (a a' : Option Addr) (cap cap' : Nat) (zs : List Int) (w : World) (h : Row .u8 w a zs) (h' : Row .u8 w a' zs) (hl : zs.length ≤ 1099511627776) :
    Calls Tryd.prog 13 #[.slice a zs.length cap, .slice a' zs.length cap'] w fun e w' => e = .returned (.bool true) ∧ w' = w := by
  have e1 := conv_bytes a cap zs w h
  have e2 := conv_bytes a' cap' zs w h'
  go_enter Tryd.func13, Tryd.ntmps13
  go_wp2
  go_ret
  exact ⟨rfl, rfl⟩

end Go.Proofs.YtjaoggkpnjkkpaaDoor

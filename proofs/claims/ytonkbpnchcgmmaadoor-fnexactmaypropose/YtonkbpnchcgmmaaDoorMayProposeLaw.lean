/- The law FnExactMayPropose, walked: at every list of int64 that can be read it answers true, and it writes into nothing that was there. -/
import Derived.Test.YtonkbpnchcgmmaaDoorS5m
namespace Go.Proofs.YtonkbpnchcgmmaaDoor
open Go.RowKit
set_option linter.unusedVariables false
set_option linter.unusedSimpArgs false

set_option maxHeartbeats 2000000 in
theorem mayProposeLaw (a : Option Addr) (cap : Nat) (zs : List Int) (m : Int) (w : World) (hG : Rul w) (h : Row .i64 w a zs) (hm : zs.length ≤ 9223372036854775807) :
    Calls Tryd.prog 6 #[.slice a zs.length cap, .int .i64 m] w fun e w' => e = .returned (.bool true) ∧ Below w.heap.size w w' := by
  by_cases hle : zs.length ≤ 1048576
  · have hsp := fun a c w h => specMayP_any a c zs m w h hm
    have him := fun a c w hG h => implMayP_any a c zs m w hG h hm
    generalize mayP zs m = E at hsp him
    have hne : (E != E) = false := by simp
    go_enter Tryd.func6, Tryd.ntmps6
    go_wp2_with fail
    refine (toI_any a cap zs w h hle).mono ?_
    rintro e w1 ⟨g1, c1, rfl, o1, b1⟩
    go_wp2_with fail
    refine (hsp _ _ w1 (Row.own o1)).mono ?_
    rintro e w2 ⟨rfl, hb2⟩
    have b2 := b1.trans (hb2.mono b1.size)
    clear b1 hb2 o1
    go_wp2_with fail
    refine (toI_any a cap zs w2 (h.below b2) hle).mono ?_
    rintro e w3 ⟨g3, c3, rfl, o3, hb3⟩
    have b3 := b2.trans (hb3.mono b2.size)
    clear b2 hb3
    go_wp2_with fail
    refine (him _ _ w3 (hG.below b3) (Row.own o3)).mono ?_
    rintro e w4 ⟨rfl, hb4⟩
    have o3 := own_below o3 hb4
    have b4 := b3.trans (hb4.mono b3.size)
    clear b3 hb4
    go_wp2_with fail
    refine (toI_any a cap zs w4 (h.below b4) hle).mono ?_
    rintro e w6 ⟨g6, c6, rfl, o6, hb6⟩
    have o3 := own_below o3 hb6
    have b6 := b4.trans (hb6.mono b4.size)
    clear b4 hb6
    go_wp2_with fail
    refine (eqI_true _ _ _ _ zs w6 (Row.own o3) (Row.own o6) (by omega)).mono ?_
    rintro e w7 ⟨rfl, nn, rfl⟩
    go_wp2
    go_ret
    exact ⟨rfl, below_drewN b6 _⟩
  · go_enter Tryd.func6, Tryd.ntmps6
    go_wp2
    go_ret
    exact ⟨rfl, Below.refl _ _⟩

end Go.Proofs.YtonkbpnchcgmmaaDoor

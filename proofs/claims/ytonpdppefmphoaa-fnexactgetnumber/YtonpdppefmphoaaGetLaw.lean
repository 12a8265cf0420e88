/- The law FnExactGetNumber, walked: at every list of bytes that can be read and every place it answers true, and it writes into nothing that was there. -/
import Derived.Test.YtonpdppefmphoaaGet
namespace Go.Proofs.Ytonpdppefmphoaa
open Go.RowKit
set_option linter.unusedVariables false
set_option linter.unusedSimpArgs false

set_option maxHeartbeats 2000000 in
theorem getLaw (a : Option Addr) (cap : Nat) (zs : List Int) (p : Int) (w : World) (h : Row .u8 w a zs) (hu : ∀ i, 0 ≤ zs.getD i 0 ∧ zs.getD i 0 ≤ 255) (hm : zs.length ≤ 9223372036854775807) :
    Calls Try.prog 7 #[.slice a zs.length cap, .int .i64 p] w fun e w' => e = .returned (.bool true) ∧ Below w.heap.size w w' := by
  by_cases hle : zs.length ≤ 1048576
  · go_enter Try.func7, Try.ntmps7
    go_wp2_with fail
    refine (toB_any a cap zs w h hle).mono ?_
    rintro e w1 ⟨g1, c1, rfl, o1, b1⟩
    go_wp2_with fail
    refine (specGet_any _ _ zs p w1 (Row.own o1) hu hle).mono ?_
    rintro e w2 ⟨rfl, hb2⟩
    have b2 := b1.trans (hb2.mono b1.size)
    clear b1 hb2 o1
    generalize hd : getC zs p = d at *
    generalize hv : getV zs p = v at *
    go_wp2_with fail
    have B1 := Box.new w2 (.int .i64 d) (.int .i64 v) 40
    have b2 := b2.alloc b2.size (.cells #[.int .i64 d, .int .i64 v] 40)
    generalize (w2.alloc (.cells #[.int .i64 d, .int .i64 v] 40)) = W2 at *
    refine (toB_any a cap zs W2 (h.below b2) hle).mono ?_
    rintro e w3 ⟨g3, c3, rfl, o3, hb3⟩
    have B1 := B1.below hb3
    have b3 := b2.trans (hb3.mono b2.size)
    clear b2 hb3
    go_wp2_with fail
    refine (implGet_any _ _ zs p w3 (Row.own o3) hu hle).mono ?_
    rw [hd, hv]
    rintro e w4 ⟨rfl, hb4⟩
    have B1 := B1.below hb4
    have o3 := own_below o3 hb4
    have b4 := b3.trans (hb4.mono b3.size)
    have s1 := B1.lt
    clear b3 hb4
    have p1 := B1.fst
    have p2 := B1.snd
    go_wp2_with fail
    clear p1 p2
    have o3 := o3.alloc (.cells #[.int .i64 d, .int .i64 v] 40)
    have b4 := b4.alloc b4.size (.cells #[.int .i64 d, .int .i64 v] 40)
    generalize (w4.alloc (.cells #[.int .i64 d, .int .i64 v] 40)) = W4 at *
    refine (eqIR_true _ _ _).mono ?_
    rintro e w5 ⟨rfl, hb5⟩
    have o3 := own_below o3 hb5
    have b5 := b4.trans (hb5.mono b4.size)
    clear b4 hb5
    go_wp2_with fail
    refine (toB_any a cap zs w5 (h.below b5) hle).mono ?_
    rintro e w6 ⟨g6, c6, rfl, o6, hb6⟩
    have o3 := own_below o3 hb6
    have b6 := b5.trans (hb6.mono b5.size)
    clear b5 hb6
    go_wp2_with fail
    refine (eqB_true _ _ _ _ zs w6 (Row.own o3) (Row.own o6) (by omega)).mono ?_
    rintro e w7 ⟨rfl, nn, rfl⟩
    go_wp2
    go_ret
    exact ⟨rfl, below_drewN b6 _⟩
  · go_enter Try.func7, Try.ntmps7
    go_wp2
    go_ret
    exact ⟨rfl, Below.refl _ _⟩

end Go.Proofs.Ytonpdppefmphoaa

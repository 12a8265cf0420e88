/- The law FnExactPackNumbers, walked: at every list that can be read it answers true, and it writes into nothing that was there. -/
import Derived.Test.YtbionobcbbmbjabPack
namespace Go.Proofs.Ytbionobcbbmbjab
open Go.RowKit
set_option linter.unusedVariables false
set_option linter.unusedSimpArgs false

set_option maxHeartbeats 4000000 in
theorem packLaw (a : Option Addr) (cap : Nat) (zs : List Int) (w : World) (h : Row .i64 w a zs) (hm : zs.length ≤ 9223372036854775807) :
    Calls Try.prog 6 #[.slice a zs.length cap] w fun e w' => e = .returned (.bool true) ∧ Below w.heap.size w w' := by
  by_cases hle : zs.length ≤ 1048576
  · have hL := packR_le zs
    go_enter Try.func6, Try.ntmps6
    go_wp2_with fail
    refine (toI_any a cap zs w h hle).mono ?_
    rintro e w1 ⟨g1, c1, rfl, ot, b1⟩
    go_wp2_with fail
    refine (specPack_any _ _ zs w1 (Row.own ot) hle).mono ?_
    rintro e w2 ⟨a2, k2, rfl, o1, hb2⟩
    have b2 := b1.trans (hb2.mono b1.size)
    have o1 := own_base o1 b1.size
    clear b1 hb2 ot
    generalize hC : packC zs = d at *
    generalize hX : packR zs = ys at *
    go_wp2_with fail
    have B1 := Box.new w2 (.int .i64 d) (.slice a2 ys.length k2) 31
    have o1 := o1.alloc (.cells #[.int .i64 d, .slice a2 ys.length k2] 31)
    have b2 := b2.alloc b2.size (.cells #[.int .i64 d, .slice a2 ys.length k2] 31)
    have s1 : w2.heap.size < (w2.alloc (.cells #[.int .i64 d, .slice a2 ys.length k2] 31)).heap.size := by simp
    generalize (w2.alloc (.cells #[.int .i64 d, .slice a2 ys.length k2] 31)) = W2 at *
    refine (toI_any a cap zs W2 (h.below b2) hle).mono ?_
    rintro e w3 ⟨g3, c3, rfl, ox, hb3⟩
    have x1 := own_apart o1 ox (Nat.le_refl _)
    have xB1 : some w2.heap.size ≠ (Value.slice (some ⟨g3, 0, none⟩) zs.length c3).ownBlock := own_not ox (Or.inl s1)
    have o1 := own_below o1 hb3
    have B1 := B1.below hb3
    have b3 := b2.trans (hb3.mono b2.size)
    have r2 := b2.size
    have r3 := b3.size
    have s3 := B1.lt
    clear b2 hb3
    go_wp2_with fail
    refine (implPack_any _ _ zs w3 (Row.own ox) hle).mono ?_
    rw [hX, hC]
    rintro e w4 ⟨a4, k4, rfl, o2, hb4⟩
    have n0 := own_apart o1 o2 (Nat.le_refl _)
    have x2 := own_apart' ox o2 (Nat.le_refl _)
    have n1 : some w2.heap.size ≠ (Value.slice a4 ys.length k4).ownBlock := own_not o2 (Or.inl s3)
    have n2 : some w4.heap.size ≠ (Value.slice a4 ys.length k4).ownBlock := own_not o2 (Or.inr (Nat.le_refl _))
    have xB2 : some w4.heap.size ≠ (Value.slice (some ⟨g3, 0, none⟩) zs.length c3).ownBlock := own_not ox (Or.inr hb4.size)
    have o1 := own_below o1 hb4
    have ox := own_below ox hb4
    have B1 := B1.below hb4
    have b4 := b3.trans (hb4.mono b3.size)
    have s4 := B1.lt
    clear b3 hb4
    have p1 := B1.fst
    have p2 := B1.snd
    go_wp2_with fail
    clear p1 p2
    have B2 := Box.new w4 (.int .i64 d) (.slice a4 ys.length k4) 31
    have B1 := B1.alloc (.cells #[.int .i64 d, .slice a4 ys.length k4] 31)
    have o1 := o1.alloc (.cells #[.int .i64 d, .slice a4 ys.length k4] 31)
    have o2 := o2.alloc (.cells #[.int .i64 d, .slice a4 ys.length k4] 31)
    have ox := ox.alloc (.cells #[.int .i64 d, .slice a4 ys.length k4] 31)
    have b4 := b4.alloc b4.size (.cells #[.int .i64 d, .slice a4 ys.length k4] 31)
    generalize (w4.alloc (.cells #[.int .i64 d, .slice a4 ys.length k4] 31)) = W4 at *
    refine (eqBR_true d _ _ _ _ ys W4 (Row.own o2) (Row.own o1) (by omega)).mono ?_
    rintro e w5 ⟨rfl, hb5⟩
    have o1 := own_below o1 hb5
    have o2 := own_below o2 hb5
    have ox := own_below ox hb5
    have B1 := B1.below hb5
    have B2 := B2.below hb5
    have b5 := b4.trans (hb5.mono b4.size)
    clear b4 hb5
    go_wp2_with fail
    refine (toI_any a cap zs w5 (h.below b5) hle).mono ?_
    rintro e w6 ⟨g6, c6, rfl, oy, hb6⟩
    have o1 := own_below o1 hb6
    have o2 := own_below o2 hb6
    have ox := own_below ox hb6
    have B1 := B1.below hb6
    have B2 := B2.below hb6
    have b6 := b5.trans (hb6.mono b5.size)
    clear b5 hb6
    go_wp2_with fail
    refine (eqI_true _ _ _ _ zs w6 (Row.own ox) (Row.own oy) (by omega)).mono ?_
    rintro e w7 ⟨rfl, nn, rfl⟩
    have hb7 := below_drewN (Below.refl w6.heap.size w6) nn
    have o1 := own_below o1 hb7
    have o2 := own_below o2 hb7
    have ox := own_below ox hb7
    have B1 := B1.below hb7
    have B2 := B2.below hb7
    have b7 := b6.trans (hb7.mono b6.size)
    clear b6 hb7 oy
    generalize w6.drewN nn = w7 at *
    go_wp2_with fail
    refine (markI_any W2.heap.size _ _ _ 1 w7 ox (by omega) (by omega) (by omega)).mono ?_
    rintro e w8 ⟨rfl, ox, hg8⟩
    have b8 : Below w.heap.size w w8 := b7.grown hg8 b7.size (fun k hk => Nat.le_trans r2 (ox.lt k hk).1)
    have o1 := o1.kept hg8 x1
    have o2 := o2.kept hg8 x2
    have B1 := B1.grown hg8 xB1
    have B2 := B2.grown hg8 xB2
    clear b7 hg8 ox
    have hpos : ¬ (1 + (zs.length : Int) < 0) := by omega
    have p1 := B1.fst
    have p2 := B1.snd
    have p3 := B2.fst
    have p4 := B2.snd
    go_wp2_with fail
    clear p1 p2 p3 p4
    refine (eqBR_true d _ _ _ _ ys w8 (Row.own o2) (Row.own o1) (by omega)).mono ?_
    rintro e w9 ⟨rfl, hb9⟩
    have o1 := own_below o1 hb9
    have o2 := own_below o2 hb9
    have B1 := B1.below hb9
    have B2 := B2.below hb9
    have b9 := b8.trans (hb9.mono b8.size)
    clear b8 hb9
    have p3 := B2.fst
    have p4 := B2.snd
    go_wp2_with fail
    clear p3 p4
    refine (markBR_any w3.heap.size d _ _ _ 1 w9 o2 (by omega) (by omega) (by omega)).mono ?_
    rintro e w10 ⟨rfl, o2, hg10⟩
    have b10 : Below w.heap.size w w10 := b9.grown hg10 b9.size (fun k hk => Nat.le_trans r3 (o2.lt k hk).1)
    have o1 := o1.kept hg10 n0
    have B1 := B1.grown hg10 n1
    have B2 := B2.grown hg10 n2
    clear b9 hg10
    have p3 := B2.fst
    have p4 := B2.snd
    go_wp2_with fail
    clear p3 p4
    refine (heldBR_true d _ ys.length _ 1 w10 (Row.own o2) (by omega) (by omega) (by omega)).mono ?_
    rintro e w11 ⟨rfl, hb11⟩
    have o1 := own_below o1 hb11
    have o2 := own_below o2 hb11
    have B1 := B1.below hb11
    have B2 := B2.below hb11
    have b11 := b10.trans (hb11.mono b10.size)
    clear b10 hb11
    go_wp2_with fail
    refine (toI_any a cap zs w11 (h.below b11) hle).mono ?_
    rintro e w12 ⟨g12, c12, rfl, oz, hb12⟩
    have o1 := own_below o1 hb12
    have o2 := own_below o2 hb12
    have B1 := B1.below hb12
    have B2 := B2.below hb12
    have b12 := b11.trans (hb12.mono b11.size)
    clear b11 hb12
    go_wp2_with fail
    refine (implPack_any _ _ zs w12 (Row.own oz) hle).mono ?_
    rw [hX, hC]
    rintro e w13 ⟨a13, k13, rfl, o3, hb13⟩
    have o1 := own_below o1 hb13
    have o2 := own_below o2 hb13
    have B1 := B1.below hb13
    have B2 := B2.below hb13
    have b13 := b12.trans (hb13.mono b12.size)
    have s13 := B1.lt
    clear b12 hb13 oz
    have p1 := B1.fst
    have p2 := B1.snd
    go_wp2_with fail
    clear p1 p2
    have B1 := B1.alloc (.cells #[.int .i64 d, .slice a13 ys.length k13] 31)
    have B2 := B2.alloc (.cells #[.int .i64 d, .slice a13 ys.length k13] 31)
    have o1 := o1.alloc (.cells #[.int .i64 d, .slice a13 ys.length k13] 31)
    have o2 := o2.alloc (.cells #[.int .i64 d, .slice a13 ys.length k13] 31)
    have o3 := o3.alloc (.cells #[.int .i64 d, .slice a13 ys.length k13] 31)
    have b13 := b13.alloc b13.size (.cells #[.int .i64 d, .slice a13 ys.length k13] 31)
    generalize (w13.alloc (.cells #[.int .i64 d, .slice a13 ys.length k13] 31)) = W13 at *
    refine (eqBR_true d _ _ _ _ ys W13 (Row.own o3) (Row.own o1) (by omega)).mono ?_
    rintro e w14 ⟨rfl, hb14⟩
    have o2 := own_below o2 hb14
    have B2 := B2.below hb14
    have b14 := b13.trans (hb14.mono b13.size)
    clear b13 hb14
    have p3 := B2.fst
    have p4 := B2.snd
    go_wp2_with fail
    clear p3 p4
    refine (heldBR_true d _ ys.length _ 1 w14 (Row.own o2) (by omega) (by omega) (by omega)).mono ?_
    rintro e w15 ⟨rfl, hb15⟩
    have b15 := b14.trans (hb15.mono b14.size)
    clear b14 hb15
    go_wp2
    go_ret
    exact ⟨rfl, b15⟩
  · go_enter Try.func6, Try.ntmps6
    go_wp2
    go_ret
    exact ⟨rfl, Below.refl _ _⟩

end Go.Proofs.Ytbionobcbbmbjab

/- Proved here: at every int64, FnExactBitsOf answers true and leaves its argument as it was. No condition. -/
import Derived.Test.YtbionobcbbmbjabRows
import Derived.Test.YtbionobcbbmbjabBits
import Derived.WalkKit
import Derived.ProofKit
import Derived.OpenShut
import Derived.ShutString
import Derived.ChangeOld
import Derived.Below
namespace Go.Proofs.Ytbionobcbbmbjab
open Go.RowKit
set_option linter.unusedVariables false
set_option linter.unusedSimpArgs false

set_option maxHeartbeats 2000000 in
theorem bitsLaw (n : Int) (w : World) :
    Calls Try.prog 7 #[.int .i64 n] w fun e w' => e = .returned (.bool true) ∧ Below w.heap.size w w' := by
  have hL := bitsR_le n
  go_enter Try.func7, Try.ntmps7
  go_wp2_with fail
  refine (specBits_any n _).mono ?_
  rintro e w1 ⟨a1, k1, rfl, ho1, hb1⟩
  generalize hX : bitsR n = zs at *
  generalize hC : bitsC n = d at *
  go_wp2_with fail
  have B1 := Box.new w1 (.int .i64 d) (.slice a1 zs.length k1) 27
  have o1 := ho1.alloc (.cells #[.int .i64 d, .slice a1 zs.length k1] 27)
  have b1 := hb1.alloc hb1.size (.cells #[.int .i64 d, .slice a1 zs.length k1] 27)
  have s1 : w1.heap.size < (w1.alloc (.cells #[.int .i64 d, .slice a1 zs.length k1] 27)).heap.size := by simp
  generalize (w1.alloc (.cells #[.int .i64 d, .slice a1 zs.length k1] 27)) = W1 at *
  clear hb1 ho1
  refine (implBits_any n _).mono ?_
  rw [hX, hC]
  rintro e w2 ⟨a2, k2, rfl, ho2, hb2⟩
  have n0 := own_apart o1 ho2 (Nat.le_refl _)
  have n1 : some w1.heap.size ≠ (Value.slice a2 zs.length k2).ownBlock := own_not ho2 (Or.inl s1)
  have n2 : some w2.heap.size ≠ (Value.slice a2 zs.length k2).ownBlock := own_not ho2 (Or.inr (Nat.le_refl _))
  have o1 := own_below o1 hb2
  have B1 := B1.below hb2
  have b2 := b1.trans (hb2.mono b1.size)
  have s2 := B1.lt
  have r1 := b1.size
  clear b1 hb2
  have p1 := B1.fst
  have p2 := B1.snd
  go_wp2_with fail
  clear p1 p2
  have B2 := Box.new w2 (.int .i64 d) (.slice a2 zs.length k2) 27
  have B1 := B1.alloc (.cells #[.int .i64 d, .slice a2 zs.length k2] 27)
  have o1 := o1.alloc (.cells #[.int .i64 d, .slice a2 zs.length k2] 27)
  have o2 := ho2.alloc (.cells #[.int .i64 d, .slice a2 zs.length k2] 27)
  have b2 := b2.alloc b2.size (.cells #[.int .i64 d, .slice a2 zs.length k2] 27)
  generalize (w2.alloc (.cells #[.int .i64 d, .slice a2 zs.length k2] 27)) = W2 at *
  clear ho2
  refine (eqLR_true d _ _ _ _ zs W2 (Row.own o2) (Row.own o1) (by omega)).mono ?_
  rintro e w3 ⟨rfl, hb3⟩
  have o1 := own_below o1 hb3
  have o2 := own_below o2 hb3
  have B1 := B1.below hb3
  have B2 := B2.below hb3
  have b3 := b2.trans (hb3.mono b2.size)
  clear b2 hb3
  have p1 := B2.fst
  have p2 := B2.snd
  go_wp2_with fail
  clear p1 p2
  refine (markLR_any W1.heap.size d _ _ _ 1 w3 o2 (by omega) (by omega) (by omega)).mono ?_
  rintro e w4 ⟨rfl, o2, hg4⟩
  have b4 : Below w.heap.size w w4 := b3.grown hg4 b3.size (fun k hk => Nat.le_trans r1 (o2.lt k hk).1)
  have o1 := o1.kept hg4 n0
  have B1 := B1.grown hg4 n1
  have B2 := B2.grown hg4 n2
  clear b3 hg4
  have p1 := B2.fst
  have p2 := B2.snd
  go_wp2_with fail
  clear p1 p2
  refine (heldLR_true d _ zs.length _ 1 w4 (Row.own o2) (by omega) (by omega) (by omega)).mono ?_
  rintro e w5 ⟨rfl, hb5⟩
  have o1 := own_below o1 hb5
  have o2 := own_below o2 hb5
  have B1 := B1.below hb5
  have B2 := B2.below hb5
  have b5 := b4.trans (hb5.mono b4.size)
  clear b4 hb5
  go_wp2_with fail
  refine (implBits_any n _).mono ?_
  rw [hX, hC]
  rintro e w6 ⟨a3, k3, rfl, o3, hb6⟩
  have o1 := own_below o1 hb6
  have o2 := own_below o2 hb6
  have B1 := B1.below hb6
  have B2 := B2.below hb6
  have b6 := b5.trans (hb6.mono b5.size)
  have s3 := B1.lt
  clear b5 hb6
  have p1 := B1.fst
  have p2 := B1.snd
  go_wp2_with fail
  clear p1 p2
  have B1 := B1.alloc (.cells #[.int .i64 d, .slice a3 zs.length k3] 27)
  have B2 := B2.alloc (.cells #[.int .i64 d, .slice a3 zs.length k3] 27)
  have o1 := o1.alloc (.cells #[.int .i64 d, .slice a3 zs.length k3] 27)
  have o2 := o2.alloc (.cells #[.int .i64 d, .slice a3 zs.length k3] 27)
  have o3 := o3.alloc (.cells #[.int .i64 d, .slice a3 zs.length k3] 27)
  have b6 := b6.alloc b6.size (.cells #[.int .i64 d, .slice a3 zs.length k3] 27)
  generalize (w6.alloc (.cells #[.int .i64 d, .slice a3 zs.length k3] 27)) = W6 at *
  refine (eqLR_true d _ _ _ _ zs W6 (Row.own o3) (Row.own o1) (by omega)).mono ?_
  rintro e w7 ⟨rfl, hb7⟩
  have o2 := own_below o2 hb7
  have B2 := B2.below hb7
  have b7 := b6.trans (hb7.mono b6.size)
  clear b6 hb7
  have p1 := B2.fst
  have p2 := B2.snd
  go_wp2_with fail
  clear p1 p2
  refine (heldLR_true d _ zs.length _ 1 w7 (Row.own o2) (by omega) (by omega) (by omega)).mono ?_
  rintro e w8 ⟨rfl, hb8⟩
  have b8 := b7.trans (hb8.mono b7.size)
  clear b7 hb8
  go_wp2
  go_ret
  exact ⟨rfl, b8⟩

end Go.Proofs.Ytbionobcbbmbjab

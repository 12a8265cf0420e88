/- FnExactPackVote walked: it comes out true, and only new memory is made. No condition. -/
import Derived.Test.YtpdbjjklcejimaaVq10
namespace Go.Proofs.Ytpdbjjklcejimaa
open Go.RowKit
set_option linter.unusedVariables false
set_option linter.unusedSimpArgs false

set_option maxHeartbeats 2000000 in
theorem packVoteLaw (k r n v : Int) (w : World) :
    Calls Try.prog 5 #[.agg #[.int .i64 k, .int .i64 r, .int .i64 n, .int .i64 v]] w fun e w' => e = .returned (.bool true) ∧ Below w.heap.size w w' := by
  have hL := vpR_le ⟨k, r, n, v⟩
  have hsp := fun w => specPackVote_any k r n v w
  have him := fun w => implPackVote_any k r n v w
  have hto := fun w => toVote_any k r n v w
  generalize vpR ⟨k, r, n, v⟩ = zs at hL hsp him
  generalize voteF ⟨k, r, n, v⟩ = d at hsp him
  have b0 : Below w.heap.size w (w.alloc (.cells #[.int .i64 k, .int .i64 r, .int .i64 n, .int .i64 v] 37)) := by go_grown
  have BV := Blk.new w 37 #[.int .i64 k, .int .i64 r, .int .i64 n, .int .i64 v]
  go_enter Try.func5, Try.ntmps5
  go_wp2_with fail
  generalize w.alloc (.cells #[.int .i64 k, .int .i64 r, .int .i64 n, .int .i64 v] 37) = W0 at b0 BV
  refine (hto _).mono ?_
  rintro e wt ⟨rfl, hb⟩
  replace BV := BV.below hb
  replace b0 := below_from b0 hb
  clear hb
  go_wp2_with fail
  refine (hsp _).mono ?_
  rintro e w1 ⟨a1, k1, rfl, ho1, hb1⟩
  have lt0 := BV.lt
  replace BV := BV.below hb1
  have r0 := b0.size
  replace b0 := below_from b0 hb1
  have B1 := Box.new w1 (.int .i64 d) (.slice a1 zs.length k1) 32
  have o1 := ho1.alloc (.cells #[.int .i64 d, .slice a1 zs.length k1] 32)
  have hbx : Below w1.heap.size w1 (w1.alloc (.cells #[.int .i64 d, .slice a1 zs.length k1] 32)) := by go_grown
  have BV1 := BV.below hbx
  have b1 := below_from b0 hbx
  have s1 : w1.heap.size < (w1.alloc (.cells #[.int .i64 d, .slice a1 zs.length k1] 32)).heap.size := by simp
  have p0 := BV1.cell 0 _ rfl
  have p1 := BV1.cell 1 _ rfl
  have p2 := BV1.cell 2 _ rfl
  have p3 := BV1.cell 3 _ rfl
  clear hb1 ho1 hbx BV b0
  go_wp2_with fail
  clear p0 p1 p2 p3
  generalize (w1.alloc (.cells #[.int .i64 d, .slice a1 zs.length k1] 32)) = W1 at *
  refine (hto _).mono ?_
  rintro e wu ⟨rfl, hb⟩
  replace BV1 := BV1.below hb
  replace b1 := below_from b1 hb
  replace B1 := B1.below hb
  replace o1 := own_below o1 hb
  replace s1 := Nat.lt_of_lt_of_le s1 hb.size
  clear hb
  go_wp2_with fail
  refine (him _).mono ?_
  rintro e w2 ⟨a2, k2, rfl, ho2, hb2⟩
  have n0 := own_apart o1 ho2 (Nat.le_refl _)
  have n1 : some w1.heap.size ≠ (Value.slice a2 zs.length k2).ownBlock := own_not ho2 (Or.inl s1)
  have n2 : some w2.heap.size ≠ (Value.slice a2 zs.length k2).ownBlock := own_not ho2 (Or.inr (Nat.le_refl _))
  have n3 : some w.heap.size ≠ (Value.slice a2 zs.length k2).ownBlock := own_not ho2 (Or.inl BV1.lt)
  have o1 := own_below o1 hb2
  have B1 := B1.below hb2
  replace BV1 := BV1.below hb2
  have b2 := b1.trans (hb2.mono b1.size)
  have s2 := B1.lt
  have r1 := b1.size
  clear b1 hb2
  have p1 := B1.fst
  have p2 := B1.snd
  go_wp2_with fail
  clear p1 p2
  have B2 := Box.new w2 (.int .i64 d) (.slice a2 zs.length k2) 32
  have B1 := B1.alloc (.cells #[.int .i64 d, .slice a2 zs.length k2] 32)
  replace BV1 := BV1.below (w' := w2.alloc (.cells #[.int .i64 d, .slice a2 zs.length k2] 32)) (by go_grown)
  have o1 := o1.alloc (.cells #[.int .i64 d, .slice a2 zs.length k2] 32)
  have o2 := ho2.alloc (.cells #[.int .i64 d, .slice a2 zs.length k2] 32)
  have b2 := b2.alloc b2.size (.cells #[.int .i64 d, .slice a2 zs.length k2] 32)
  generalize (w2.alloc (.cells #[.int .i64 d, .slice a2 zs.length k2] 32)) = W2 at *
  clear ho2
  refine (eqBR_true d _ _ _ _ zs W2 (Row.own o2) (Row.own o1) (by omega)).mono ?_
  rintro e w3 ⟨rfl, hb3⟩
  have o1 := own_below o1 hb3
  have o2 := own_below o2 hb3
  have B1 := B1.below hb3
  have B2 := B2.below hb3
  replace BV1 := BV1.below hb3
  have b3 := b2.trans (hb3.mono b2.size)
  clear b2 hb3
  have p1 := B2.fst
  have p2 := B2.snd
  go_wp2_with fail
  clear p1 p2
  refine (markBR_any wu.heap.size d _ _ _ 1 w3 o2 (by omega) (by omega) (by omega)).mono ?_
  rintro e w4 ⟨rfl, o2, hg4⟩
  have b4 : Below w.heap.size w w4 := b3.grown hg4 b3.size (fun k hk => Nat.le_trans r1 (o2.lt k hk).1)
  have o1 := o1.kept hg4 n0
  have B1 := B1.grown hg4 n1
  have B2 := B2.grown hg4 n2
  replace BV1 := BV1.grown hg4 n3
  clear b3 hg4
  have p1 := B2.fst
  have p2 := B2.snd
  go_wp2_with fail
  clear p1 p2
  refine (heldBR_true d _ zs.length _ 1 w4 (Row.own o2) (by omega) (by omega) (by omega)).mono ?_
  rintro e w5 ⟨rfl, hb5⟩
  have o1 := own_below o1 hb5
  have o2 := own_below o2 hb5
  have B1 := B1.below hb5
  have B2 := B2.below hb5
  replace BV1 := BV1.below hb5
  have b5 := b4.trans (hb5.mono b4.size)
  clear b4 hb5
  have p0 := BV1.cell 0 _ rfl
  have p1 := BV1.cell 1 _ rfl
  have p2 := BV1.cell 2 _ rfl
  have p3 := BV1.cell 3 _ rfl
  go_wp2_with fail
  clear p0 p1 p2 p3
  refine (hto _).mono ?_
  rintro e wv ⟨rfl, hb⟩
  replace b5 := below_from b5 hb
  replace B1 := B1.below hb
  replace B2 := B2.below hb
  replace o1 := own_below o1 hb
  replace o2 := own_below o2 hb
  clear hb BV1
  go_wp2_with fail
  refine (him _).mono ?_
  rintro e w6 ⟨a3, k3, rfl, o3, hb6⟩
  have o1 := own_below o1 hb6
  have o2 := own_below o2 hb6
  have B1 := B1.below hb6
  have B2 := B2.below hb6
  have b6 := b5.trans (hb6.mono b5.size)
  have s3 := B1.lt
  clear b5 hb6
  have p1 := B1.fst
  have p2 := B1.snd
  go_wp2_with fail
  clear p1 p2
  have B1 := B1.alloc (.cells #[.int .i64 d, .slice a3 zs.length k3] 32)
  have B2 := B2.alloc (.cells #[.int .i64 d, .slice a3 zs.length k3] 32)
  have o1 := o1.alloc (.cells #[.int .i64 d, .slice a3 zs.length k3] 32)
  have o2 := o2.alloc (.cells #[.int .i64 d, .slice a3 zs.length k3] 32)
  have o3 := o3.alloc (.cells #[.int .i64 d, .slice a3 zs.length k3] 32)
  have b6 := b6.alloc b6.size (.cells #[.int .i64 d, .slice a3 zs.length k3] 32)
  generalize (w6.alloc (.cells #[.int .i64 d, .slice a3 zs.length k3] 32)) = W6 at *
  refine (eqBR_true d _ _ _ _ zs W6 (Row.own o3) (Row.own o1) (by omega)).mono ?_
  rintro e w7 ⟨rfl, hb7⟩
  have o2 := own_below o2 hb7
  have B2 := B2.below hb7
  have b7 := b6.trans (hb7.mono b6.size)
  clear b6 hb7
  have p1 := B2.fst
  have p2 := B2.snd
  go_wp2_with fail
  clear p1 p2
  refine (heldBR_true d _ zs.length _ 1 w7 (Row.own o2) (by omega) (by omega) (by omega)).mono ?_
  rintro e w8 ⟨rfl, hb8⟩
  have b8 := b7.trans (hb8.mono b7.size)
  clear b7 hb8
  go_wp2
  go_ret
  exact ⟨rfl, b8⟩

end Go.Proofs.Ytpdbjjklcejimaa

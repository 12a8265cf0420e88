/- FnExactPackTxn walked: it comes out true, and only new memory is made. No condition. -/
import Derived.Test.YtlnocniiehaekaaTxnPackI
import Derived.Test.YtlnocniiehaekaaBlk
namespace Go.Proofs.Ytlnocniiehaekaa
open Go.RowKit
open Go.BigFrame
set_option linter.unusedVariables false
set_option linter.unusedSimpArgs false

set_option maxHeartbeats 4000000 in
theorem packTxnLaw (i s q : Int) (a : Option Addr) (cap : Nat) (zs : List ActD) (w : World) (h : ActRow w a zs) (hn : zs.length ≤ 9223372036854775807) :
    Calls Try.prog 4 #[.agg #[.int .i64 i, .int .i64 s, .int .i64 q, .slice a zs.length cap]] w fun e w' => e = .returned (.bool true) ∧ Below w.heap.size w w' := by
  have hs := fun w => szTxn_any i s q a zs.length cap 1048576 w hn (by omega) (by omega)
  by_cases hbig : (1048576 : Int) - zs.length < 0
  · rw [if_pos hbig] at hs
    go_enter Try.func4, Try.ntmps4
    go_wp2_with fail
    refine (hs _).mono ?_
    rintro e w1 ⟨rfl, hb⟩
    go_wp2
    go_ret
    exact ⟨rfl, below_from (by go_grown) hb⟩
  rw [if_neg hbig] at hs
  have hl : zs.length ≤ 1048576 := by omega
  generalize hX : (1048576 : Int) - zs.length = X at hs hbig
  clear hX
  have hto := fun w h => toTxn_any i s q a cap zs w h hl
  have heq := fun a c a' c' w h h' => eqTxn_true i s q a a' c c' zs w h h' (by omega)
  have hmx := fun base v xs w o => markTxn_any i s q base v zs.length xs 1 w o (by omega) (by omega) (by omega)
  have hx0 : ¬ 1 + ((zs.length * 3 : Nat) : Int) < 0 := by omega
  generalize 1 + ((zs.length * 3 : Nat) : Int) = mx at hmx hx0
  have hsp := fun a c w h => specPackTxn_any i s q a c zs w h hl
  have him := fun a c w h => implPackTxn_any i s q a c zs w h hl
  have hyl := pkR_le i s q zs
  generalize pkC i s q zs = d at hsp him
  generalize pkR i s q zs = ys at hsp him hyl
  have heg := fun a a' c c' w h h' => eqBR_true d a a' c c' ys w h h' (by omega)
  have hmk := fun base v xs w o => markBR_any base d v ys.length xs 1 w o (by omega) (by omega) (by omega)
  have hhd := fun a c w o => heldBR_true d a ys.length c 1 w o (by omega) (by omega) (by omega)
  have hm0 : ¬ 1 + (ys.length : Int) < 0 := by omega
  generalize 1 + (ys.length : Int) = m at hmk hhd hm0
  have hmm : (m != m) = false := by simp
  have hb0 : Below w.heap.size w (w.alloc (.cells #[.int .i64 i, .int .i64 s, .int .i64 q, .slice a zs.length cap] 24)) := by go_grown
  have B1 := Blk.new w 24 #[.int .i64 i, .int .i64 s, .int .i64 q, .slice a zs.length cap]
  go_enter Try.func4, Try.ntmps4
  go_wp2_with fail
  generalize w.alloc (.cells #[.int .i64 i, .int .i64 s, .int .i64 q, .slice a zs.length cap] 24) = W0 at hb0 B1
  refine (hs _).mono ?_
  rintro e w1 ⟨rfl, hb⟩
  replace B1 := B1.below hb
  replace hb0 := hb0.trans (hb.mono hb0.size)
  clear hb hs
  have p0 := B1.cell 0 _ rfl
  have p1 := B1.cell 1 _ rfl
  have p2 := B1.cell 2 _ rfl
  have p3 := B1.cell 3 _ rfl
  go_wp2_with fail
  refine (hto _ (h.below hb0)).mono ?_
  rintro e w2 ⟨g2, c2, rfl, o2, hb⟩
  replace B1 := B1.below hb
  replace hb0 := hb0.trans (hb.mono hb0.size)
  clear hb
  clear p0 p1 p2 p3
  go_wp2_with fail
  refine (hsp _ _ _ (Lies.own o2)).mono ?_
  rintro e w3 ⟨a3, k3, rfl, o3, hb⟩
  replace B1 := B1.below hb
  replace hb0 := hb0.trans (hb.mono hb0.size)
  clear hb o2
  have hb : Below w3.heap.size w3 (w3.alloc (.cells #[.int .i64 d, .slice a3 ys.length k3] 35)) := by go_grown
  have Bw := Blk.new w3 35 #[.int .i64 d, .slice a3 ys.length k3]
  replace o3 := own_below o3 hb
  replace B1 := B1.below hb
  have p0 := B1.cell 0 _ rfl
  have p1 := B1.cell 1 _ rfl
  have p2 := B1.cell 2 _ rfl
  have p3 := B1.cell 3 _ rfl
  go_wp2_with fail
  clear p0 p1 p2 p3
  generalize w3.alloc (.cells #[.int .i64 d, .slice a3 ys.length k3] 35) = W at hb Bw o3 B1
  replace hb0 := hb0.trans (hb.mono hb0.size)
  replace h := h.below hb0
  clear hb
  refine (hto _ h).mono ?_
  rintro e w5 ⟨g5, c5, rfl, ox, b2⟩
  have xr := ox.lt
  have hb : Below w5.heap.size w5 (w5.alloc (.cells #[.int .i64 i, .int .i64 s, .int .i64 q, .slice (some ⟨g5, 0, none⟩) zs.length c5] 29)) := by go_grown
  have Bx := Blk.new w5 29 #[.int .i64 i, .int .i64 s, .int .i64 q, .slice (some ⟨g5, 0, none⟩) zs.length c5]
  replace ox := own_below ox hb
  have hs5 : w5.heap.size ≤ (w5.alloc (.cells #[.int .i64 i, .int .i64 s, .int .i64 q, .slice (some ⟨g5, 0, none⟩) zs.length c5] 29)).heap.size := hb.size
  go_wp2_with fail
  generalize w5.alloc (.cells #[.int .i64 i, .int .i64 s, .int .i64 q, .slice (some ⟨g5, 0, none⟩) zs.length c5] 29) = W5 at hb Bx ox hs5
  replace b2 := b2.trans (hb.mono b2.size)
  clear hb
  have r5 := b2.size
  refine (him _ _ _ (Lies.own ox)).mono ?_
  rintro e w6 ⟨a6, k6, rfl, o6, hb⟩
  have hs6 := hb.size
  replace ox := own_below ox hb
  replace Bx := Bx.below hb
  replace b2 := b2.trans (hb.mono b2.size)
  clear hb
  have nBg : some w6.heap.size ≠ _ := own_not3 o6 (Or.inr (Nat.le_refl _))
  have hb : Below w6.heap.size w6 (w6.alloc (.cells #[.int .i64 d, .slice a6 ys.length k6] 35)) := by go_grown
  have Bg := Blk.new w6 35 #[.int .i64 d, .slice a6 ys.length k6]
  replace o6 := own_below o6 hb
  replace ox := own_below ox hb
  replace Bx := Bx.below hb
  have q0 := fun (w' : World) (hB : Below W.heap.size W w') => (Bw.below hB)
  have Bw0 := Bw.below (b2.trans (hb.mono b2.size))
  have qq0 := Bw0.cell 0 _ rfl
  have q1 := Bw0.cell 1 _ rfl
  clear q0
  go_wp2_with fail
  clear qq0 q1
  generalize w6.alloc (.cells #[.int .i64 d, .slice a6 ys.length k6] 35) = w7 at hb Bg o6 ox Bw0 Bx
  replace b2 := b2.trans (hb.mono b2.size)
  clear hb Bw0
  refine (heg _ _ _ _ _ (Row.own o6) (Row.own (own_below o3 b2))).mono ?_
  rintro e w8 ⟨rfl, hb⟩
  replace o6 := own_below o6 hb
  replace Bg := Bg.below hb
  replace b2 := b2.trans (hb.mono b2.size)
  replace ox := own_below ox hb
  replace Bx := Bx.below hb
  clear hb
  have B1' := B1.below b2
  have hR' := h.below b2
  go_wp2_with fail
  have hW : Below w8.heap.size w8 w8.drew := (Below.refl _ _).drew
  have hne : Nonempty (Lat w8) := ⟨⟨w8, Below.refl _ _⟩⟩
  have p0 := B1'.lat 0 _ rfl
  have q0 := Bx.lat 0 _ rfl
  have p1 := B1'.lat 1 _ rfl
  have q1 := Bx.lat 1 _ rfl
  have p2 := B1'.lat 2 _ rfl
  have q2 := Bx.lat 2 _ rfl
  have p3 := B1'.lat 3 _ rfl
  have q3 := Bx.lat 3 _ rfl
  refine text_begin (S := fun w' => ∃ u : Lat w8, w' = u.val) (by kernel_rfl) ?_
  refine seg_range [(0, 2)] 3 (by kernel_rfl) (by kernel_rfl) (by kernel_rfl) (by kernel_rfl) (by kernel_rfl) ⟨⟨_, hW⟩, rfl⟩ ?_
  simp only [pickR, List.toList_toArray, List.flatMap_cons, List.flatMap_nil, List.drop_succ_cons, List.drop_zero, List.take_succ_cons, List.take_zero, List.cons_append, List.nil_append, List.append_nil]
  repeat go_big_quiet_step (fail)
  refine wpQuiet_nil ?_
  refine call_at 2 (some 29) 10 #[.agg #[.int .i64 i, .int .i64 s, .int .i64 q, .slice a zs.length cap]] 2 (by kernel_rfl) (by kernel_rfl) (by kernel_rfl) (by kernel_rfl) (by kernel_rfl) ?_
  refine (hto _ (hR'.below hW)).mono ?_
  rintro e w9 ⟨g9, c9, rfl, o9, hb⟩
  replace hW := hW.trans (hb.mono hW.size)
  clear hb
  refine ⟨_, rfl, ⟨⟨_, hW⟩, rfl⟩, ?_⟩
  simp only [Act.put, List.setIfInBounds_toArray, List.set_cons_zero, List.set_cons_succ]
  refine call_at 3 (some 30) 12 #[.agg #[.int .i64 i, .int .i64 s, .int .i64 q, .slice (some ⟨g5, 0, none⟩) zs.length c5], .agg #[.int .i64 i, .int .i64 s, .int .i64 q, .slice (some ⟨g9, 0, none⟩) zs.length c9]] 1 (by kernel_rfl) (by kernel_rfl) (by kernel_rfl) (by kernel_rfl) (by kernel_rfl) ?_
  refine (heq _ _ _ _ _ (Lies.own (own_below ox hW)) (Lies.own o9)).mono ?_
  rintro e w10 ⟨rfl, hb⟩
  replace hW := hW.trans (hb.mono hW.size)
  clear hb o9
  refine ⟨_, rfl, ⟨⟨_, hW⟩, rfl⟩, ?_⟩
  simp only [Act.put, List.setIfInBounds_toArray, List.set_cons_zero, List.set_cons_succ]
  refine seg_range [(4, 1)] 0 (by kernel_rfl) (by kernel_rfl) (by kernel_rfl) (by kernel_rfl) (by kernel_rfl) ⟨⟨_, hW⟩, rfl⟩ ?_
  simp only [pickR, List.toList_toArray, List.flatMap_cons, List.flatMap_nil, List.drop_succ_cons, List.drop_zero, List.take_succ_cons, List.take_zero, List.cons_append, List.nil_append, List.append_nil]
  repeat go_big_quiet_step (fail)
  refine wpQuiet_nil ?_
  refine text_end (by kernel_rfl) ?_
  clear p0 p1 p2 p3 q0 q1 q2 q3 hne hR' B1'
  replace b2 := b2.trans (hW.mono b2.size)
  replace ox := own_below ox hW
  replace o6 := own_below o6 hW
  replace Bx := Bx.below hW
  replace Bg := Bg.below hW
  clear hW
  have p0 := Bx.cell 0 _ rfl
  have p1 := Bx.cell 1 _ rfl
  have p2 := Bx.cell 2 _ rfl
  have p3 := Bx.cell 3 _ rfl
  go_wp2_with fail
  clear p0 p1 p2 p3
  clear Bx
  refine (hmx _ _ _ _ ox).mono ?_
  rintro e w11 ⟨rfl, ox', hg⟩
  replace hg := only_of_grown (lo := W.heap.size) (hi := w5.heap.size) hg xr
  clear ox ox' xr
  replace b2 := below_only b2 hg (Nat.le_refl _) b2.size
  replace o6 := own_only o6 hg (by omega)
  replace Bg := blk_only Bg hg (by omega)
  clear hg
  have Bw0 := Bw.below b2
  have p0 := Bg.cell 0 _ rfl
  have q0 := Bw0.cell 0 _ rfl
  have p1 := Bg.cell 1 _ rfl
  have q1 := Bw0.cell 1 _ rfl
  go_wp2_with fail
  clear Bw0 p0 q0 p1 q1
  refine (heg _ _ _ _ _ (Row.own o6) (Row.own (own_below o3 b2))).mono ?_
  rintro e w12 ⟨rfl, hb⟩
  replace o6 := own_below o6 hb
  replace Bg := Bg.below hb
  replace b2 := b2.trans (hb.mono b2.size)
  clear hb
  have p0 := Bg.cell 0 _ rfl
  have p1 := Bg.cell 1 _ rfl
  go_wp2_with fail
  clear p0 p1
  refine (hmk _ _ _ _ o6).mono ?_
  rintro e w13 ⟨rfl, o6, hg⟩
  replace b2 := b2.grown hg b2.size (fun k hk => Nat.le_trans r5 (o6.lt k hk).1)
  replace Bg := Bg.grown hg nBg
  clear hg
  have p0 := Bg.cell 0 _ rfl
  have p1 := Bg.cell 1 _ rfl
  go_wp2_with fail
  clear p0 p1
  refine (hhd _ _ _ (Row.own o6)).mono ?_
  rintro e w14 ⟨rfl, hb⟩
  replace o6 := own_below o6 hb
  replace Bg := Bg.below hb
  replace b2 := b2.trans (hb.mono b2.size)
  clear hb
  have B1' := B1.below b2
  have p0 := B1'.cell 0 _ rfl
  have p1 := B1'.cell 1 _ rfl
  have p2 := B1'.cell 2 _ rfl
  have p3 := B1'.cell 3 _ rfl
  go_wp2_with fail
  clear p0 p1 p2 p3 B1'
  refine (hto _ (h.below b2)).mono ?_
  rintro e w15 ⟨g15, c15, rfl, oz, hb⟩
  replace o6 := own_below o6 hb
  replace Bg := Bg.below hb
  replace b2 := b2.trans (hb.mono b2.size)
  clear hb
  go_wp2_with fail
  refine (him _ _ _ (Lies.own oz)).mono ?_
  rintro e w16 ⟨a16, k16, rfl, o16, hb⟩
  replace o6 := own_below o6 hb
  replace Bg := Bg.below hb
  replace b2 := b2.trans (hb.mono b2.size)
  clear hb oz
  have hb : Below w16.heap.size w16 (w16.alloc (.cells #[.int .i64 d, .slice a16 ys.length k16] 35)) := by go_grown
  replace o6 := own_below o6 hb
  replace Bg := Bg.below hb
  replace o16 := own_below o16 hb
  have Bw0 := Bw.below (b2.trans (hb.mono b2.size))
  have q0 := Bw0.cell 0 _ rfl
  have q1 := Bw0.cell 1 _ rfl
  go_wp2_with fail
  clear q0 q1
  generalize w16.alloc (.cells #[.int .i64 d, .slice a16 ys.length k16] 35) = w17 at hb o16 o6 Bg Bw0
  replace b2 := b2.trans (hb.mono b2.size)
  clear hb Bw0
  refine (heg _ _ _ _ _ (Row.own o16) (Row.own (own_below o3 b2))).mono ?_
  rintro e w18 ⟨rfl, hb⟩
  replace o6 := own_below o6 hb
  replace Bg := Bg.below hb
  replace b2 := b2.trans (hb.mono b2.size)
  clear hb
  have p0 := Bg.cell 0 _ rfl
  have p1 := Bg.cell 1 _ rfl
  go_wp2_with fail
  clear p0 p1
  refine (hhd _ _ _ (Row.own o6)).mono ?_
  rintro e w19 ⟨rfl, hb⟩
  replace o6 := own_below o6 hb
  replace Bg := Bg.below hb
  replace b2 := b2.trans (hb.mono b2.size)
  clear hb
  go_wp2
  go_ret
  exact ⟨rfl, below_from hb0 b2⟩

end Go.Proofs.Ytlnocniiehaekaa

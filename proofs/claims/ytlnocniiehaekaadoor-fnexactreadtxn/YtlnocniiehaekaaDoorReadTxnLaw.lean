/- FnExactReadTxn walked: it comes out true, and only new memory is made. No condition. -/
import Derived.Test.YtlnocniiehaekaaDoorRdT
import Derived.Test.YtlnocniiehaekaaDoorTR
namespace Go.Proofs.YtlnocniiehaekaaDoor
open Go.RowKit
open Go.BigFrame
set_option linter.unusedVariables false
set_option linter.unusedSimpArgs false

set_option maxHeartbeats 4000000 in
theorem readTxnLaw (a : Option Addr) (cap : Nat) (ds : List Int) (t : TypeId) (x : Value) (w : World) (hG : ErrVar w t x) (h : Row .u8 w a ds) (hu : ∀ i, 0 ≤ ds.getD i 0 ∧ ds.getD i 0 ≤ 255) (hn : ds.length ≤ 9223372036854775807) :
    Calls Tryd.prog 4 #[.slice a ds.length cap] w fun e w' => e = .returned (.bool true) ∧ Below w.heap.size w w' := by
  by_cases hl : ds.length ≤ 1048576
  case neg =>
    go_enter Tryd.func4, Tryd.ntmps4
    go_wp2
    go_ret
    exact ⟨rfl, Below.refl _ _⟩
  have hto := fun a c w h => toB_any a c ds w h hl
  have heq := fun a c a' c' w h h' => eqB_true a a' c c' ds w h h' (by omega)
  have hmx := fun base v xs w o => markB_any base v ds.length xs 1 w o (by omega) (by omega) (by omega)
  have hx0 : ¬ 1 + (ds.length : Int) < 0 := by omega
  generalize 1 + (ds.length : Int) = mx at hmx hx0
  have hsp := fun a c w h => specReadTxn_any a c ds w h hu hl
  have him := fun a c w hG h => implReadTxn_any a c ds t x w hG h hu hl
  have hyl := rdT_le ds
  generalize rdC ds = d at hsp him
  generalize (rdT ds).1 = ri at hsp him
  generalize (rdT ds).2.1 = rs at hsp him
  generalize (rdT ds).2.2.1 = rq at hsp him
  generalize (rdT ds).2.2.2 = ys at hsp him hyl
  have heg := fun a a' c c' w h h' => eqTR_true d ri rs rq a a' c c' ys w h h' (by omega)
  have hmk := fun base v xs w o => markTR_any base d ri rs rq v ys.length xs 1 w o (by omega) (by omega) (by omega)
  have hhd := fun a c w o => heldTR_true d ri rs rq a ys.length c 1 w o (by omega) (by omega) (by omega)
  have hm0 : ¬ 1 + ((ys.length * 3 : Nat) : Int) < 0 := by omega
  generalize 1 + ((ys.length * 3 : Nat) : Int) = m at hmk hhd hm0
  have hmm : (m != m) = false := by simp
  go_enter Tryd.func4, Tryd.ntmps4
  go_wp2_with fail
  refine (hto _ _ _ h).mono ?_
  rintro e w2 ⟨g2, c2, rfl, o2, hb0⟩
  go_wp2_with fail
  refine (hsp _ _ _ (Row.own o2)).mono ?_
  rintro e w3 ⟨a3, k3, rfl, o3, hb⟩
  replace hb0 := hb0.trans (hb.mono hb0.size)
  clear hb o2
  have hb : Below w3.heap.size w3 (w3.alloc (.cells #[.int .i64 d, .int .i64 ri, .int .i64 rs, .int .i64 rq, .slice a3 ys.length k3] 29)) := by go_grown
  have Bw := Blk.new w3 29 #[.int .i64 d, .int .i64 ri, .int .i64 rs, .int .i64 rq, .slice a3 ys.length k3]
  replace o3 := own_below o3 hb
  go_wp2_with fail
  generalize w3.alloc (.cells #[.int .i64 d, .int .i64 ri, .int .i64 rs, .int .i64 rq, .slice a3 ys.length k3] 29) = W at hb Bw o3
  replace hb0 := hb0.trans (hb.mono hb0.size)
  replace h := h.below hb0
  clear hb
  replace hG := hG.below hb0
  refine (hto _ _ _ h).mono ?_
  rintro e W5 ⟨g5, c5, rfl, ox, b2⟩
  have xr := ox.lt
  have hs5 : W5.heap.size ≤ W5.heap.size := Nat.le_refl _
  go_wp2_with fail
  have r5 := b2.size
  refine (him _ _ _ (hG.below b2) (Row.own ox)).mono ?_
  rintro e w6 ⟨a6, k6, rfl, o6, hb⟩
  have hs6 := hb.size
  replace ox := own_below ox hb
  replace b2 := b2.trans (hb.mono b2.size)
  clear hb
  have nBg : some w6.heap.size ≠ _ := own_not3 o6 (Or.inr (Nat.le_refl _))
  have hb : Below w6.heap.size w6 (w6.alloc (.cells #[.int .i64 d, .int .i64 ri, .int .i64 rs, .int .i64 rq, .slice a6 ys.length k6] 29)) := by go_grown
  have Bg := Blk.new w6 29 #[.int .i64 d, .int .i64 ri, .int .i64 rs, .int .i64 rq, .slice a6 ys.length k6]
  replace o6 := own_below o6 hb
  replace ox := own_below ox hb
  have q0 := fun (w' : World) (hB : Below W.heap.size W w') => (Bw.below hB)
  have Bw0 := Bw.below (b2.trans (hb.mono b2.size))
  have qq0 := Bw0.cell 0 _ rfl
  have q1 := Bw0.cell 1 _ rfl
  have q2 := Bw0.cell 2 _ rfl
  have q3 := Bw0.cell 3 _ rfl
  have q4 := Bw0.cell 4 _ rfl
  clear q0
  go_wp2_with fail
  clear qq0 q1 q2 q3 q4
  generalize w6.alloc (.cells #[.int .i64 d, .int .i64 ri, .int .i64 rs, .int .i64 rq, .slice a6 ys.length k6] 29) = w7 at hb Bg o6 ox Bw0
  replace b2 := b2.trans (hb.mono b2.size)
  clear hb Bw0
  refine (heg _ _ _ _ _ (Lies.own o6) (Lies.own (own_below o3 b2))).mono ?_
  rintro e w8 ⟨rfl, hb⟩
  replace o6 := own_below o6 hb
  replace Bg := Bg.below hb
  replace b2 := b2.trans (hb.mono b2.size)
  replace ox := own_below ox hb
  clear hb
  go_wp2_with fail
  refine (hto _ _ _ (h.below b2)).mono ?_
  rintro e w9 ⟨g9, c9, rfl, o9, hb⟩
  replace ox := own_below ox hb
  replace o6 := own_below o6 hb
  replace Bg := Bg.below hb
  replace b2 := b2.trans (hb.mono b2.size)
  clear hb
  go_wp2_with fail
  refine (heq _ _ _ _ _ (Row.own ox) (Row.own o9)).mono ?_
  rintro e w10 ⟨rfl, nn, rfl⟩
  have hb := below_drewN (Below.refl w9.heap.size w9) nn
  replace ox := own_below ox hb
  replace o6 := own_below o6 hb
  replace Bg := Bg.below hb
  replace b2 := b2.trans (hb.mono b2.size)
  clear hb o9
  generalize w9.drewN nn = w10 at *
  go_wp2_with fail
  refine (hmx _ _ _ _ ox).mono ?_
  rintro e w11 ⟨rfl, ox', hg⟩
  replace hg := only_of_grown (lo := W.heap.size) (hi := W5.heap.size) hg xr
  clear ox ox' xr
  replace b2 := below_only b2 hg (Nat.le_refl _) b2.size
  replace o6 := own_only o6 hg (by omega)
  replace Bg := blk_only Bg hg (by omega)
  clear hg
  have Bw0 := Bw.below b2
  have p0 := Bg.cell 0 _ rfl
  have q0 := Bw0.cell 0 _ rfl
  have p1 := Bg.cell 1 _ rfl
  have q1 := Bw0.cell 1 _ rfl
  have p2 := Bg.cell 2 _ rfl
  have q2 := Bw0.cell 2 _ rfl
  have p3 := Bg.cell 3 _ rfl
  have q3 := Bw0.cell 3 _ rfl
  have p4 := Bg.cell 4 _ rfl
  have q4 := Bw0.cell 4 _ rfl
  go_wp2_with fail
  clear Bw0 p0 q0 p1 q1 p2 q2 p3 q3 p4 q4
  refine (heg _ _ _ _ _ (Lies.own o6) (Lies.own (own_below o3 b2))).mono ?_
  rintro e w12 ⟨rfl, hb⟩
  replace o6 := own_below o6 hb
  replace Bg := Bg.below hb
  replace b2 := b2.trans (hb.mono b2.size)
  clear hb
  have p0 := Bg.cell 0 _ rfl
  have p1 := Bg.cell 1 _ rfl
  have p2 := Bg.cell 2 _ rfl
  have p3 := Bg.cell 3 _ rfl
  have p4 := Bg.cell 4 _ rfl
  go_wp2_with fail
  clear p0 p1 p2 p3 p4
  refine (hmk _ _ _ _ o6).mono ?_
  rintro e w13 ⟨rfl, o6, hg⟩
  replace b2 := b2.grown hg b2.size (fun k hk => Nat.le_trans r5 (o6.lt k hk).1)
  replace Bg := Bg.grown hg nBg
  clear hg
  have p0 := Bg.cell 0 _ rfl
  have p1 := Bg.cell 1 _ rfl
  have p2 := Bg.cell 2 _ rfl
  have p3 := Bg.cell 3 _ rfl
  have p4 := Bg.cell 4 _ rfl
  go_wp2_with fail
  clear p0 p1 p2 p3 p4
  refine (hhd _ _ _ (Lies.own o6)).mono ?_
  rintro e w14 ⟨rfl, hb⟩
  replace o6 := own_below o6 hb
  replace Bg := Bg.below hb
  replace b2 := b2.trans (hb.mono b2.size)
  clear hb
  go_wp2_with fail
  refine (hto _ _ _ (h.below b2)).mono ?_
  rintro e w15 ⟨g15, c15, rfl, oz, hb⟩
  replace o6 := own_below o6 hb
  replace Bg := Bg.below hb
  replace b2 := b2.trans (hb.mono b2.size)
  clear hb
  go_wp2_with fail
  refine (him _ _ _ (hG.below b2) (Row.own oz)).mono ?_
  rintro e w16 ⟨a16, k16, rfl, o16, hb⟩
  replace o6 := own_below o6 hb
  replace Bg := Bg.below hb
  replace b2 := b2.trans (hb.mono b2.size)
  clear hb oz
  have hb : Below w16.heap.size w16 (w16.alloc (.cells #[.int .i64 d, .int .i64 ri, .int .i64 rs, .int .i64 rq, .slice a16 ys.length k16] 29)) := by go_grown
  replace o6 := own_below o6 hb
  replace Bg := Bg.below hb
  replace o16 := own_below o16 hb
  have Bw0 := Bw.below (b2.trans (hb.mono b2.size))
  have q0 := Bw0.cell 0 _ rfl
  have q1 := Bw0.cell 1 _ rfl
  have q2 := Bw0.cell 2 _ rfl
  have q3 := Bw0.cell 3 _ rfl
  have q4 := Bw0.cell 4 _ rfl
  go_wp2_with fail
  clear q0 q1 q2 q3 q4
  generalize w16.alloc (.cells #[.int .i64 d, .int .i64 ri, .int .i64 rs, .int .i64 rq, .slice a16 ys.length k16] 29) = w17 at hb o16 o6 Bg Bw0
  replace b2 := b2.trans (hb.mono b2.size)
  clear hb Bw0
  refine (heg _ _ _ _ _ (Lies.own o16) (Lies.own (own_below o3 b2))).mono ?_
  rintro e w18 ⟨rfl, hb⟩
  replace o6 := own_below o6 hb
  replace Bg := Bg.below hb
  replace b2 := b2.trans (hb.mono b2.size)
  clear hb
  have p0 := Bg.cell 0 _ rfl
  have p1 := Bg.cell 1 _ rfl
  have p2 := Bg.cell 2 _ rfl
  have p3 := Bg.cell 3 _ rfl
  have p4 := Bg.cell 4 _ rfl
  go_wp2_with fail
  clear p0 p1 p2 p3 p4
  refine (hhd _ _ _ (Lies.own o6)).mono ?_
  rintro e w19 ⟨rfl, hb⟩
  replace o6 := own_below o6 hb
  replace Bg := Bg.below hb
  replace b2 := b2.trans (hb.mono b2.size)
  clear hb
  go_wp2
  go_ret
  exact ⟨rfl, below_from hb0 b2⟩

end Go.Proofs.YtlnocniiehaekaaDoor

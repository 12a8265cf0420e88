/- FnExactFindTxn walked: it comes out true, and only new memory is made. No condition. -/
import Derived.Test.YtlnocniiehaekaaTxnFindI
import Derived.Test.YtlnocniiehaekaaD2m
import Derived.Test.YtlnocniiehaekaaTR
namespace Go.Proofs.Ytlnocniiehaekaa
open Go.RowKit
open Go.BigFrame
set_option linter.unusedVariables false
set_option linter.unusedSimpArgs false

set_option maxHeartbeats 4000000 in
theorem findTxnLaw (v : Value) (ds : List TxnD) (x : Int) (w : World) (h : TxnsAt w v ds) (hn : ds.length ≤ 9223372036854775807) (hn1 : ∀ d ∈ ds, d.acts.length ≤ 9223372036854775807) :
    Calls Try.prog 7 #[v, .int .i64 x] w fun e w' => e = .returned (.bool true) ∧ Below w.heap.size w w' := by
  go_enter Try.func7, Try.ntmps7
  go_wp2_with fail
  refine (szTxnS_any v ds 1048576 w h hn hn1 (by omega) (by omega)).mono ?_
  rintro e w1 ⟨sz, rfl, hsz, hb0⟩
  by_cases hbig : sz < 0
  · go_wp2
    go_ret
    exact ⟨rfl, hb0⟩
  have hl : ds.length + sumA ds ≤ 1048576 := by have := hsz (by omega); omega
  clear hsz
  have hto := fun w h => toTxnS_any v ds w h hl
  have heq := fun v v' w h h' => eqTxnS_true v v' ds w h h' hl
  have hmx := fun lo hi v w o => markTxnS_any lo hi v ds w o hl
  have hsp := fun v w h => specFindTxn_any v ds x w h hl
  have him := fun v w h => implFindTxn_any v ds x w h hl
  have hyl := findR_le ds x
  generalize findC ds x = d at hsp him
  generalize (findT ds x).id = ri at hsp him
  generalize (findT ds x).session = rs at hsp him
  generalize (findT ds x).seq = rq at hsp him
  generalize (findT ds x).acts = ys at hsp him hyl
  have heg := fun a a' c c' w h h' => eqTR_true d ri rs rq a a' c c' ys w h h' (by omega)
  have hmk := fun base v xs w o => markTR_any base d ri rs rq v ys.length xs 1 w o (by omega) (by omega) (by omega)
  have hhd := fun a c w o => heldTR_true d ri rs rq a ys.length c 1 w o (by omega) (by omega) (by omega)
  have hm0 : ¬ 1 + ((ys.length * 3 : Nat) : Int) < 0 := by omega
  generalize 1 + ((ys.length * 3 : Nat) : Int) = m at hmk hhd hm0
  have hmm : (m != m) = false := by simp
  go_wp2_with fail
  refine (hto _ (h.below hb0)).mono ?_
  rintro e w2 ⟨x2, rfl, o2, hb⟩
  replace hb0 := hb0.trans (hb.mono hb0.size)
  clear hb
  go_wp2_with fail
  refine (hsp _ _ o2.row).mono ?_
  rintro e w3 ⟨a3, k3, rfl, o3, hb⟩
  replace hb0 := hb0.trans (hb.mono hb0.size)
  clear hb o2
  have hb : Below w3.heap.size w3 (w3.alloc (.cells #[.int .i64 d, .int .i64 ri, .int .i64 rs, .int .i64 rq, .slice a3 ys.length k3] 55)) := by go_grown
  have Bw := Blk.new w3 55 #[.int .i64 d, .int .i64 ri, .int .i64 rs, .int .i64 rq, .slice a3 ys.length k3]
  replace o3 := own_below o3 hb
  go_wp2_with fail
  generalize w3.alloc (.cells #[.int .i64 d, .int .i64 ri, .int .i64 rs, .int .i64 rq, .slice a3 ys.length k3] 55) = W at hb Bw o3
  replace hb0 := hb0.trans (hb.mono hb0.size)
  replace h := h.below hb0
  clear hb
  refine (hto _ h).mono ?_
  rintro e W5 ⟨x5, rfl, ox, b2⟩
  have hs5 : W5.heap.size ≤ W5.heap.size := Nat.le_refl _
  go_wp2_with fail
  have r5 := b2.size
  refine (him _ _ (ox.row)).mono ?_
  rintro e w6 ⟨a6, k6, rfl, o6, hb⟩
  have hs6 := hb.size
  replace ox := ox.below hb
  replace b2 := b2.trans (hb.mono b2.size)
  clear hb
  have nBg : some w6.heap.size ≠ _ := own_not3 o6 (Or.inr (Nat.le_refl _))
  have hb : Below w6.heap.size w6 (w6.alloc (.cells #[.int .i64 d, .int .i64 ri, .int .i64 rs, .int .i64 rq, .slice a6 ys.length k6] 55)) := by go_grown
  have Bg := Blk.new w6 55 #[.int .i64 d, .int .i64 ri, .int .i64 rs, .int .i64 rq, .slice a6 ys.length k6]
  replace o6 := own_below o6 hb
  replace ox := ox.below hb
  have q0 := fun (w' : World) (hB : Below W.heap.size W w') => (Bw.below hB)
  have Bw0 := Bw.below (b2.trans (hb.mono b2.size))
  have qq0 := Bw0.cell 0 _ rfl
  have q1 := Bw0.cell 1 _ rfl
  have q2 := Bw0.cell 2 _ rfl
  have q3 := Bw0.cell 3 _ rfl
  have q4 := Bw0.cell 4 _ rfl
  clear q0
  go_wp2_with fail
  clear qq0 q1 q2 q3 q4
  generalize w6.alloc (.cells #[.int .i64 d, .int .i64 ri, .int .i64 rs, .int .i64 rq, .slice a6 ys.length k6] 55) = w7 at hb Bg o6 ox Bw0
  replace b2 := b2.trans (hb.mono b2.size)
  clear hb Bw0
  refine (heg _ _ _ _ _ (Lies.own o6) (Lies.own (own_below o3 b2))).mono ?_
  rintro e w8 ⟨rfl, hb⟩
  replace o6 := own_below o6 hb
  replace Bg := Bg.below hb
  replace b2 := b2.trans (hb.mono b2.size)
  replace ox := ox.below hb
  clear hb
  go_wp2_with fail
  refine (hto _ (h.below b2)).mono ?_
  rintro e w9 ⟨x9, rfl, o9, hb⟩
  replace ox := ox.below hb
  replace o6 := own_below o6 hb
  replace Bg := Bg.below hb
  replace b2 := b2.trans (hb.mono b2.size)
  clear hb
  go_wp2_with fail
  refine (heq _ _ _ ox.row o9.row).mono ?_
  rintro e w10 ⟨rfl, hb⟩
  replace ox := ox.below hb
  replace o6 := own_below o6 hb
  replace Bg := Bg.below hb
  replace b2 := b2.trans (hb.mono b2.size)
  clear hb o9
  go_wp2_with fail
  refine (hmx W.heap.size W5.heap.size _ _ ox).mono ?_
  rintro e w11 ⟨mx, rfl, hx0, hg⟩
  clear ox
  replace b2 := below_only b2 hg (Nat.le_refl _) b2.size
  replace o6 := own_only o6 hg (by omega)
  replace Bg := blk_only Bg hg (by omega)
  clear hg
  have Bw0 := Bw.below b2
  have p0 := Bg.cell 0 _ rfl
  have q0 := Bw0.cell 0 _ rfl
  have p1 := Bg.cell 1 _ rfl
  have q1 := Bw0.cell 1 _ rfl
  have p2 := Bg.cell 2 _ rfl
  have q2 := Bw0.cell 2 _ rfl
  have p3 := Bg.cell 3 _ rfl
  have q3 := Bw0.cell 3 _ rfl
  have p4 := Bg.cell 4 _ rfl
  have q4 := Bw0.cell 4 _ rfl
  go_wp2_with fail
  clear Bw0 p0 q0 p1 q1 p2 q2 p3 q3 p4 q4
  refine (heg _ _ _ _ _ (Lies.own o6) (Lies.own (own_below o3 b2))).mono ?_
  rintro e w12 ⟨rfl, hb⟩
  replace o6 := own_below o6 hb
  replace Bg := Bg.below hb
  replace b2 := b2.trans (hb.mono b2.size)
  clear hb
  have p0 := Bg.cell 0 _ rfl
  have p1 := Bg.cell 1 _ rfl
  have p2 := Bg.cell 2 _ rfl
  have p3 := Bg.cell 3 _ rfl
  have p4 := Bg.cell 4 _ rfl
  go_wp2_with fail
  clear p0 p1 p2 p3 p4
  refine (hmk _ _ _ _ o6).mono ?_
  rintro e w13 ⟨rfl, o6, hg⟩
  replace b2 := b2.grown hg b2.size (fun k hk => Nat.le_trans r5 (o6.lt k hk).1)
  replace Bg := Bg.grown hg nBg
  clear hg
  have p0 := Bg.cell 0 _ rfl
  have p1 := Bg.cell 1 _ rfl
  have p2 := Bg.cell 2 _ rfl
  have p3 := Bg.cell 3 _ rfl
  have p4 := Bg.cell 4 _ rfl
  go_wp2_with fail
  clear p0 p1 p2 p3 p4
  refine (hhd _ _ _ (Lies.own o6)).mono ?_
  rintro e w14 ⟨rfl, hb⟩
  replace o6 := own_below o6 hb
  replace Bg := Bg.below hb
  replace b2 := b2.trans (hb.mono b2.size)
  clear hb
  go_wp2_with fail
  refine (hto _ (h.below b2)).mono ?_
  rintro e w15 ⟨x15, rfl, oz, hb⟩
  replace o6 := own_below o6 hb
  replace Bg := Bg.below hb
  replace b2 := b2.trans (hb.mono b2.size)
  clear hb
  go_wp2_with fail
  refine (him _ _ oz.row).mono ?_
  rintro e w16 ⟨a16, k16, rfl, o16, hb⟩
  replace o6 := own_below o6 hb
  replace Bg := Bg.below hb
  replace b2 := b2.trans (hb.mono b2.size)
  clear hb oz
  have hb : Below w16.heap.size w16 (w16.alloc (.cells #[.int .i64 d, .int .i64 ri, .int .i64 rs, .int .i64 rq, .slice a16 ys.length k16] 55)) := by go_grown
  replace o6 := own_below o6 hb
  replace Bg := Bg.below hb
  replace o16 := own_below o16 hb
  have Bw0 := Bw.below (b2.trans (hb.mono b2.size))
  have q0 := Bw0.cell 0 _ rfl
  have q1 := Bw0.cell 1 _ rfl
  have q2 := Bw0.cell 2 _ rfl
  have q3 := Bw0.cell 3 _ rfl
  have q4 := Bw0.cell 4 _ rfl
  go_wp2_with fail
  clear q0 q1 q2 q3 q4
  generalize w16.alloc (.cells #[.int .i64 d, .int .i64 ri, .int .i64 rs, .int .i64 rq, .slice a16 ys.length k16] 55) = w17 at hb o16 o6 Bg Bw0
  replace b2 := b2.trans (hb.mono b2.size)
  clear hb Bw0
  refine (heg _ _ _ _ _ (Lies.own o16) (Lies.own (own_below o3 b2))).mono ?_
  rintro e w18 ⟨rfl, hb⟩
  replace o6 := own_below o6 hb
  replace Bg := Bg.below hb
  replace b2 := b2.trans (hb.mono b2.size)
  clear hb
  have p0 := Bg.cell 0 _ rfl
  have p1 := Bg.cell 1 _ rfl
  have p2 := Bg.cell 2 _ rfl
  have p3 := Bg.cell 3 _ rfl
  have p4 := Bg.cell 4 _ rfl
  go_wp2_with fail
  clear p0 p1 p2 p3 p4
  refine (hhd _ _ _ (Lies.own o6)).mono ?_
  rintro e w19 ⟨rfl, hb⟩
  replace o6 := own_below o6 hb
  replace Bg := Bg.below hb
  replace b2 := b2.trans (hb.mono b2.size)
  clear hb
  go_wp2
  go_ret
  exact ⟨rfl, below_from hb0 b2⟩

end Go.Proofs.Ytlnocniiehaekaa

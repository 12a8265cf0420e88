/- FnExactRangeOf walked: it comes out true, and only new memory is made. No condition. -/
import Derived.Test.YteoghlebijfbaaaItemRangeS
namespace Go.Proofs.Yteoghlebijfbaaa
open Go.RowKit
open Go.BigFrame
set_option linter.unusedVariables false
set_option linter.unusedSimpArgs false

set_option maxHeartbeats 4000000 in
theorem rangeOfLaw (a0 : Option Addr) (cap0 : Nat) (zs0 : List ItemD) (n1 : Int) (n2 : Int) (w : World) (h0 : ItemRow w a0 zs0) (hn0 : zs0.length ≤ 9223372036854775807) :
    Calls Try.prog 10 #[.slice a0 zs0.length cap0, .int .i64 n1, .int .i64 n2] w fun e w' => e = .returned (.bool true) ∧ Below w.heap.size w w' := by
  have hb0 : Below w.heap.size w w := Below.refl _ _
  go_enter Try.func10, Try.ntmps10
  go_wp2_with fail
  refine (szItems_u a0 zs0.length cap0 1048576 _ hn0 (by omega) (by omega)).mono ?_
  rintro e y0 ⟨sz0, rfl, hs0, hb⟩
  replace hb0 := hb0.trans (hb.mono hb0.size)
  clear hb
  by_cases hbig0 : sz0 < 0
  · go_wp2
    go_ret
    exact ⟨rfl, hb0⟩
  have hl0 : zs0.length ≤ 1048576 := by have := hs0 (by omega); omega
  have hk0 : sz0 ≤ 1048576 := by have := hs0 (by omega); omega
  have hj0 : 0 ≤ sz0 := by omega
  clear hs0
  have hto0 := fun w h => toItems_u a0 cap0 zs0 w h hl0
  have hsp := fun a c w h => specRangeOf_any a c zs0 n1 n2 w h hl0
  have him := fun a c w h => implRangeOf_any a c zs0 n1 n2 w h hl0
  have hyl : (rgR zs0 n1 n2).length ≤ 1048576 := Nat.le_trans (rgR_le zs0 n1 n2) hl0
  generalize rgC zs0 n1 n2 = d at hsp him
  generalize rgR zs0 n1 n2 = ys at hsp him hyl
  generalize (ys.length : Int) = y at hsp him
  have heg := fun a a' c c' w h h' => eqItR_true d y a a' c c' ys w h h' (by omega)
  have hmk := fun lo hi v xs w o => markItR_any lo hi d y v ys.length xs 1 w o (by omega) (by omega) (by omega)
  have hhd := fun a c w o => heldItR_true d y a ys.length c 1 w o (by omega) (by omega) (by omega)
  have hm0 : ¬ 1 + ((ys.length * 2 : Nat) : Int) < 0 := by omega
  generalize 1 + ((ys.length * 2 : Nat) : Int) = m at hmk hhd hm0
  have hmm : (m != m) = false := by simp
  go_wp2_with fail
  refine (hto0 _ (h0.below hb0)).mono ?_
  rintro e us0 ⟨xas0, xcs0, rfl, os0, hb⟩
  replace hb0 := hb0.trans (hb.mono hb0.size)
  clear hb
  go_wp2_with fail
  refine (hsp _ _ _ (os0.lies)).mono ?_
  rintro e vs ⟨ras, rcs, rfl, os, hb⟩
  replace os := OwnS.of os
  replace hb0 := hb0.trans (hb.mono hb0.size)
  clear hb os0
  have hb : Below vs.heap.size vs (vs.alloc (.cells #[.int .i64 d, .int .i64 y, .slice ras ys.length rcs] 31)) := by go_grown
  have Bw := Blk.new vs 31 #[.int .i64 d, .int .i64 y, .slice ras ys.length rcs]
  replace os := os.below hb
  go_wp2_with fail
  generalize vs.alloc (.cells #[.int .i64 d, .int .i64 y, .slice ras ys.length rcs] 31) = W at hb os Bw
  replace hb0 := hb0.trans (hb.mono hb0.size)
  clear hb
  replace h0 := h0.below hb0
  have b2 : Below W.heap.size W W := Below.refl _ _
  refine (hto0 _ (h0.below b2)).mono ?_
  rintro e ux0 ⟨xax0, xcx0, rfl, ox0, hb⟩
  have hzx0 := hb.size
  replace b2 := b2.trans (hb.mono b2.size)
  clear hb
  go_wp2_with fail
  refine (him _ _ _ (ox0.lies)).mono ?_
  rintro e vg ⟨rag, rcg, rfl, og, hb⟩
  have hzg := hb.size
  replace og := OwnS.of og
  replace b2 := b2.trans (hb.mono b2.size)
  replace ox0 := ox0.below hb
  clear hb
  have hb : Below vg.heap.size vg (vg.alloc (.cells #[.int .i64 d, .int .i64 y, .slice rag ys.length rcg] 31)) := by go_grown
  have Bg := Blk.new vg 31 #[.int .i64 d, .int .i64 y, .slice rag ys.length rcg]
  have hqg : vg.heap.size ≤ (vg.alloc (.cells #[.int .i64 d, .int .i64 y, .slice rag ys.length rcg] 31)).heap.size := hb.size
  replace ox0 := ox0.below hb
  replace og := og.below hb
  have Bw0 := Bw.below (b2.trans (hb.mono b2.size))
  have q0 := Bw0.cell 0 _ rfl
  have q1 := Bw0.cell 1 _ rfl
  have q2 := Bw0.cell 2 _ rfl
  go_wp2_with fail
  clear q0 q1 q2
  generalize vg.alloc (.cells #[.int .i64 d, .int .i64 y, .slice rag ys.length rcg] 31) = G at hb ox0 og Bg Bw0 hqg
  replace b2 := b2.trans (hb.mono b2.size)
  clear hb Bw0
  refine (heg _ _ _ _ _ og.lies (os.below b2).lies).mono ?_
  rintro e G1 ⟨rfl, hb⟩
  replace b2 := b2.trans (hb.mono b2.size)
  replace ox0 := ox0.below hb
  replace og := og.below hb
  replace Bg := Bg.below hb
  clear hb
  go_wp2_with fail
  refine (hto0 _ (h0.below b2)).mono ?_
  rintro e ue0 ⟨xae0, xce0, rfl, oe0, hb⟩
  replace b2 := b2.trans (hb.mono b2.size)
  replace ox0 := ox0.below hb
  replace og := og.below hb
  replace Bg := Bg.below hb
  clear hb
  go_wp2_with fail
  refine (eqItemS_true _ _ _ _ zs0 _ ox0.lies oe0.lies (by omega)).mono ?_
  rintro e ze0 ⟨rfl, hb⟩
  replace b2 := b2.trans (hb.mono b2.size)
  replace ox0 := ox0.below hb
  replace og := og.below hb
  replace Bg := Bg.below hb
  clear hb oe0
  go_wp2_with fail
  refine (markItems_u _ _ _ _ _ 1 _ ox0 (by omega) (by omega) (by omega)).mono ?_
  rintro e k0 ⟨m0, rfl, hm0', ho⟩
  clear ox0
  replace b2 := below_only b2 ho (by omega) (by have := b2.size; omega)
  replace og := og.only ho (by omega)
  replace Bg := blk_only Bg ho (by omega)
  clear ho
  have hmn : ¬ m0 < 0 := by omega
  have Bw0 := Bw.below b2
  have q0 := Bw0.cell 0 _ rfl
  have p0 := Bg.cell 0 _ rfl
  have q1 := Bw0.cell 1 _ rfl
  have p1 := Bg.cell 1 _ rfl
  have q2 := Bw0.cell 2 _ rfl
  have p2 := Bg.cell 2 _ rfl
  go_wp2_with fail
  clear Bw0 q0 p0 q1 p1 q2 p2
  refine (heg _ _ _ _ _ og.lies (os.below b2).lies).mono ?_
  rintro e G2 ⟨rfl, hb⟩
  replace b2 := b2.trans (hb.mono b2.size)
  replace og := og.below hb
  replace Bg := Bg.below hb
  clear hb
  have p0 := Bg.cell 0 _ rfl
  have p1 := Bg.cell 1 _ rfl
  have p2 := Bg.cell 2 _ rfl
  go_wp2_with fail
  clear p0 p1 p2
  refine (hmk _ _ _ _ _ og).mono ?_
  rintro e G3 ⟨rfl, og', ho⟩
  replace b2 := below_only b2 ho (by omega) (by have := b2.size; omega)
  replace Bg := blk_only Bg ho (by omega)
  clear og ho
  have p0 := Bg.cell 0 _ rfl
  have p1 := Bg.cell 1 _ rfl
  have p2 := Bg.cell 2 _ rfl
  go_wp2_with fail
  clear p0 p1 p2
  refine (hhd _ _ _ og'.lies).mono ?_
  rintro e G4 ⟨rfl, hb⟩
  replace b2 := b2.trans (hb.mono b2.size)
  replace Bg := Bg.below hb
  replace og' := og'.below hb
  clear hb
  go_wp2_with fail
  refine (hto0 _ (h0.below b2)).mono ?_
  rintro e uh0 ⟨xah0, xch0, rfl, oh0, hb⟩
  replace b2 := b2.trans (hb.mono b2.size)
  replace Bg := Bg.below hb
  replace og' := og'.below hb
  clear hb
  go_wp2_with fail
  refine (him _ _ _ (oh0.lies)).mono ?_
  rintro e vh ⟨rah, rch, rfl, oh, hb⟩
  replace oh := OwnS.of oh
  replace b2 := b2.trans (hb.mono b2.size)
  replace Bg := Bg.below hb
  replace og' := og'.below hb
  clear hb oh0
  have hb : Below vh.heap.size vh (vh.alloc (.cells #[.int .i64 d, .int .i64 y, .slice rah ys.length rch] 31)) := by go_grown
  have Bh := Blk.new vh 31 #[.int .i64 d, .int .i64 y, .slice rah ys.length rch]
  replace Bg := Bg.below hb
  replace og' := og'.below hb
  replace oh := oh.below hb
  have Bw0 := Bw.below (b2.trans (hb.mono b2.size))
  have q0 := Bw0.cell 0 _ rfl
  have q1 := Bw0.cell 1 _ rfl
  have q2 := Bw0.cell 2 _ rfl
  go_wp2_with fail
  clear q0 q1 q2
  generalize vh.alloc (.cells #[.int .i64 d, .int .i64 y, .slice rah ys.length rch] 31) = Wh at hb Bg og' oh Bh Bw0
  replace b2 := b2.trans (hb.mono b2.size)
  clear hb Bw0
  refine (heg _ _ _ _ _ oh.lies (os.below b2).lies).mono ?_
  rintro e G5 ⟨rfl, hb⟩
  replace b2 := b2.trans (hb.mono b2.size)
  replace Bg := Bg.below hb
  replace og' := og'.below hb
  replace oh := oh.below hb
  clear hb
  have p0 := Bg.cell 0 _ rfl
  have p1 := Bg.cell 1 _ rfl
  have p2 := Bg.cell 2 _ rfl
  go_wp2_with fail
  clear p0 p1 p2
  refine (hhd _ _ _ og'.lies).mono ?_
  rintro e G6 ⟨rfl, hb⟩
  replace b2 := b2.trans (hb.mono b2.size)
  replace Bg := Bg.below hb
  replace og' := og'.below hb
  replace oh := oh.below hb
  clear hb
  go_wp2
  go_ret
  exact ⟨rfl, hb0.trans (b2.mono hb0.size)⟩

end Go.Proofs.Yteoghlebijfbaaa

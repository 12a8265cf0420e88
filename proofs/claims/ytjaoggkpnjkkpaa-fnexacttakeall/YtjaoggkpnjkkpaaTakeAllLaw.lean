/- FnExactTakeAll walked: it comes out true, and only new memory is made. No condition. -/
import Derived.Test.YtjaoggkpnjkkpaaIR
import Derived.Test.YtjaoggkpnjkkpaaS4r
import Derived.Test.YtjaoggkpnjkkpaaU4
namespace Go.Proofs.Ytjaoggkpnjkkpaa
open Go.RowKit
open Go.BigFrame
set_option linter.unusedVariables false
set_option linter.unusedSimpArgs false

set_option maxRecDepth 100000 in
set_option maxHeartbeats 4000000 in
theorem takeAllLaw (a0 : Option Addr) (cap0 : Nat) (zs0 : List ItemD) (v1 : Value) (ds1 : List (List UndoD)) (w : World) (h0 : ItemRow w a0 zs0) (hn0 : zs0.length ≤ 9223372036854775807) (h1 : UssAt w v1 ds1) (hn1 : ds1.length ≤ 9223372036854775807) (hm1 : ∀ d ∈ ds1, d.length ≤ 9223372036854775807) :
    Calls Try.prog 7 #[.slice a0 zs0.length cap0, v1] w fun e w' => e = .returned (.bool true) ∧ Below w.heap.size w w' := by
  have hb0 : Below w.heap.size w w := Below.refl _ _
  go_enter Try.func7, Try.ntmps7
  go_wp2_with fail
  refine (szItems_u a0 zs0.length cap0 1048576 _ hn0 (by omega) (by omega)).mono ?_
  rintro e y0 ⟨sz0, rfl, hs0, hb⟩
  replace hb0 := hb0.trans (hb.mono hb0.size)
  clear hb
  by_cases hbig0 : sz0 < 0
  · go_wp2
    go_ret
    exact ⟨rfl, hb0⟩
  have hl0 : zs0.length ≤ 1048576 := by have := hs0 (by omega); omega
  have hk0 : sz0 ≤ 1048576 := by have := hs0 (by omega); omega
  have hj0 : 0 ≤ sz0 := by omega
  clear hs0
  go_wp2_with fail
  refine (szUndoSS_any v1 ds1 sz0 _ (h1.below hb0) hn1 hm1 (by omega) (by omega)).mono ?_
  rintro e y1 ⟨sz1, rfl, hs1, hb⟩
  replace hb0 := hb0.trans (hb.mono hb0.size)
  clear hb
  by_cases hbig1 : sz1 < 0
  · go_wp2
    go_ret
    exact ⟨rfl, hb0⟩
  have hl1 : ds1.length + sumU ds1 ≤ 1048576 := by have := hs1 (by omega); omega
  have hk1 : sz1 ≤ 1048576 := by have := hs1 (by omega); omega
  have hj1 : 0 ≤ sz1 := by omega
  clear hs1
  have hto0 := fun w h => toItems_u a0 cap0 zs0 w h hl0
  have hto1 := fun w h => toUndoSS_any v1 ds1 w h hl1
  have hsp := fun a c v w h hN hu => specTakeAll_any a c zs0 v ds1 w h hN hu hl0 hl1
  have him := fun a c v w h hN hu => implTakeAll_any a c zs0 v ds1 w h hN hu hl0 hl1
  have hyl : (taI zs0 ds1).length ≤ 8 := taI_le zs0 ds1
  generalize taC zs0 ds1 = d at hsp him
  generalize taI zs0 ds1 = ys at hsp him hyl
  have heg := fun a a' c c' w h h' => eqItR_true d 0 a a' c c' ys w h h' (by omega)
  have hmk := fun lo hi v xs w o => markItR_any lo hi d 0 v ys.length xs 1 w o (by omega) (by omega) (by omega)
  have hhd := fun a c w o => heldItR_true d 0 a ys.length c 1 w o (by omega) (by omega) (by omega)
  have hm0 : ¬ 1 + ((ys.length * 2 : Nat) : Int) < 0 := by omega
  generalize 1 + ((ys.length * 2 : Nat) : Int) = m at hmk hhd hm0
  have hmm : (m != m) = false := by simp
  go_wp2_with fail
  refine (hto0 _ (h0.below hb0)).mono ?_
  rintro e us0 ⟨xas0, xcs0, rfl, os0, hb⟩
  replace hb0 := hb0.trans (hb.mono hb0.size)
  clear hb
  go_wp2_with fail
  refine (hto1 _ (h1.below hb0)).mono ?_
  rintro e us1 ⟨xas1, rfl, os1, hb⟩
  replace hb0 := hb0.trans (hb.mono hb0.size)
  replace os0 := os0.below hb
  clear hb
  go_wp2_with fail
  refine (hsp _ _ _ _ (os0.lies) (nice_own os0.1) (os1.row)).mono ?_
  rintro e vs ⟨ras, rcs, rfl, os, hb⟩
  replace os := OwnS.of os
  replace hb0 := hb0.trans (hb.mono hb0.size)
  clear hb os0 os1
  have hb : Below vs.heap.size vs (vs.alloc (.cells #[.int .i64 d, .int .i64 0, .slice ras ys.length rcs] 37)) := by go_grown
  have Bw := Blk.new vs 37 #[.int .i64 d, .int .i64 0, .slice ras ys.length rcs]
  replace os := os.below hb
  go_wp2_with fail
  generalize vs.alloc (.cells #[.int .i64 d, .int .i64 0, .slice ras ys.length rcs] 37) = W at hb os Bw
  replace hb0 := hb0.trans (hb.mono hb0.size)
  clear hb
  replace h0 := h0.below hb0
  replace h1 := h1.below hb0
  have b2 : Below W.heap.size W W := Below.refl _ _
  refine (hto0 _ (h0.below b2)).mono ?_
  rintro e ux0 ⟨xax0, xcx0, rfl, ox0, hb⟩
  have hzx0 := hb.size
  replace b2 := b2.trans (hb.mono b2.size)
  clear hb
  go_wp2_with fail
  refine (hto1 _ (h1.below b2)).mono ?_
  rintro e ux1 ⟨xax1, rfl, ox1, hb⟩
  have hzx1 := hb.size
  replace b2 := b2.trans (hb.mono b2.size)
  replace ox0 := ox0.below hb
  clear hb
  go_wp2_with fail
  refine (him _ _ _ _ (ox0.lies) (nice_own ox0.1) (ox1.row)).mono ?_
  rintro e vg ⟨rag, rcg, rfl, og, hb⟩
  have hzg := hb.size
  replace og := OwnS.of og
  replace b2 := b2.trans (hb.mono b2.size)
  replace ox0 := ox0.below hb
  replace ox1 := ox1.below hb
  clear hb
  have hb : Below vg.heap.size vg (vg.alloc (.cells #[.int .i64 d, .int .i64 0, .slice rag ys.length rcg] 37)) := by go_grown
  have Bg := Blk.new vg 37 #[.int .i64 d, .int .i64 0, .slice rag ys.length rcg]
  have hqg : vg.heap.size ≤ (vg.alloc (.cells #[.int .i64 d, .int .i64 0, .slice rag ys.length rcg] 37)).heap.size := hb.size
  replace ox0 := ox0.below hb
  replace ox1 := ox1.below hb
  replace og := og.below hb
  have Bw0 := Bw.below (b2.trans (hb.mono b2.size))
  have q0 := Bw0.cell 0 _ rfl
  have q1 := Bw0.cell 1 _ rfl
  have q2 := Bw0.cell 2 _ rfl
  go_wp2_with fail
  clear q0 q1 q2
  generalize vg.alloc (.cells #[.int .i64 d, .int .i64 0, .slice rag ys.length rcg] 37) = G at hb ox0 ox1 og Bg Bw0 hqg
  replace b2 := b2.trans (hb.mono b2.size)
  clear hb Bw0
  refine (heg _ _ _ _ _ og.lies (os.below b2).lies).mono ?_
  rintro e G1 ⟨rfl, hb⟩
  replace b2 := b2.trans (hb.mono b2.size)
  replace ox0 := ox0.below hb
  replace ox1 := ox1.below hb
  replace og := og.below hb
  replace Bg := Bg.below hb
  clear hb
  go_wp2_with fail
  refine (hto0 _ (h0.below b2)).mono ?_
  rintro e ue0 ⟨xae0, xce0, rfl, oe0, hb⟩
  replace b2 := b2.trans (hb.mono b2.size)
  replace ox0 := ox0.below hb
  replace ox1 := ox1.below hb
  replace og := og.below hb
  replace Bg := Bg.below hb
  clear hb
  go_wp2_with fail
  refine (eqItemS_true _ _ _ _ zs0 _ ox0.lies oe0.lies (by omega)).mono ?_
  rintro e ze0 ⟨rfl, hb⟩
  replace b2 := b2.trans (hb.mono b2.size)
  replace ox0 := ox0.below hb
  replace ox1 := ox1.below hb
  replace og := og.below hb
  replace Bg := Bg.below hb
  clear hb oe0
  go_wp2_with fail
  refine (hto1 _ (h1.below b2)).mono ?_
  rintro e ue1 ⟨xae1, rfl, oe1, hb⟩
  replace b2 := b2.trans (hb.mono b2.size)
  replace ox0 := ox0.below hb
  replace ox1 := ox1.below hb
  replace og := og.below hb
  replace Bg := Bg.below hb
  clear hb
  go_wp2_with fail
  refine (eqUndoSS_true _ _ ds1 _ ox1.row oe1.row hl1).mono ?_
  rintro e ze1 ⟨rfl, hb⟩
  replace b2 := b2.trans (hb.mono b2.size)
  replace ox0 := ox0.below hb
  replace ox1 := ox1.below hb
  replace og := og.below hb
  replace Bg := Bg.below hb
  clear hb oe1
  go_wp2_with fail
  refine (markItems_u _ _ _ _ _ 1 _ ox0 (by omega) (by omega) (by omega)).mono ?_
  rintro e k0 ⟨m0, rfl, hm0', ho⟩
  clear ox0
  replace b2 := below_only b2 ho (by omega) (by have := b2.size; omega)
  replace ox1 := ox1.only ho (by omega)
  replace og := og.only ho (by omega)
  replace Bg := blk_only Bg ho (by omega)
  clear ho
  go_wp2_with fail
  refine (markUndoSS_c _ _ _ ds1 m0 _ ox1 hl1 (by omega) (by omega)).mono ?_
  rintro e k1 ⟨m1, rfl, hm1', ho⟩
  clear ox1
  replace b2 := below_only b2 ho (by omega) (by have := b2.size; omega)
  replace og := og.only ho (by omega)
  replace Bg := blk_only Bg ho (by omega)
  clear ho
  have hmn : ¬ m1 < 0 := by omega
  have Bw0 := Bw.below b2
  have q0 := Bw0.cell 0 _ rfl
  have p0 := Bg.cell 0 _ rfl
  have q1 := Bw0.cell 1 _ rfl
  have p1 := Bg.cell 1 _ rfl
  have q2 := Bw0.cell 2 _ rfl
  have p2 := Bg.cell 2 _ rfl
  go_wp2_with fail
  clear Bw0 q0 p0 q1 p1 q2 p2
  refine (heg _ _ _ _ _ og.lies (os.below b2).lies).mono ?_
  rintro e G2 ⟨rfl, hb⟩
  replace b2 := b2.trans (hb.mono b2.size)
  replace og := og.below hb
  replace Bg := Bg.below hb
  clear hb
  have p0 := Bg.cell 0 _ rfl
  have p1 := Bg.cell 1 _ rfl
  have p2 := Bg.cell 2 _ rfl
  go_wp2_with fail
  clear p0 p1 p2
  refine (hmk _ _ _ _ _ og).mono ?_
  rintro e G3 ⟨rfl, og', ho⟩
  replace b2 := below_only b2 ho (by omega) (by have := b2.size; omega)
  replace Bg := blk_only Bg ho (by omega)
  clear og ho
  have p0 := Bg.cell 0 _ rfl
  have p1 := Bg.cell 1 _ rfl
  have p2 := Bg.cell 2 _ rfl
  go_wp2_with fail
  clear p0 p1 p2
  refine (hhd _ _ _ og'.lies).mono ?_
  rintro e G4 ⟨rfl, hb⟩
  replace b2 := b2.trans (hb.mono b2.size)
  replace Bg := Bg.below hb
  replace og' := og'.below hb
  clear hb
  go_wp2_with fail
  refine (hto0 _ (h0.below b2)).mono ?_
  rintro e uh0 ⟨xah0, xch0, rfl, oh0, hb⟩
  replace b2 := b2.trans (hb.mono b2.size)
  replace Bg := Bg.below hb
  replace og' := og'.below hb
  clear hb
  go_wp2_with fail
  refine (hto1 _ (h1.below b2)).mono ?_
  rintro e uh1 ⟨xah1, rfl, oh1, hb⟩
  replace b2 := b2.trans (hb.mono b2.size)
  replace Bg := Bg.below hb
  replace og' := og'.below hb
  replace oh0 := oh0.below hb
  clear hb
  go_wp2_with fail
  refine (him _ _ _ _ (oh0.lies) (nice_own oh0.1) (oh1.row)).mono ?_
  rintro e vh ⟨rah, rch, rfl, oh, hb⟩
  replace oh := OwnS.of oh
  replace b2 := b2.trans (hb.mono b2.size)
  replace Bg := Bg.below hb
  replace og' := og'.below hb
  clear hb oh0 oh1
  have hb : Below vh.heap.size vh (vh.alloc (.cells #[.int .i64 d, .int .i64 0, .slice rah ys.length rch] 37)) := by go_grown
  have Bh := Blk.new vh 37 #[.int .i64 d, .int .i64 0, .slice rah ys.length rch]
  replace Bg := Bg.below hb
  replace og' := og'.below hb
  replace oh := oh.below hb
  have Bw0 := Bw.below (b2.trans (hb.mono b2.size))
  have q0 := Bw0.cell 0 _ rfl
  have q1 := Bw0.cell 1 _ rfl
  have q2 := Bw0.cell 2 _ rfl
  go_wp2_with fail
  clear q0 q1 q2
  generalize vh.alloc (.cells #[.int .i64 d, .int .i64 0, .slice rah ys.length rch] 37) = Wh at hb Bg og' oh Bh Bw0
  replace b2 := b2.trans (hb.mono b2.size)
  clear hb Bw0
  refine (heg _ _ _ _ _ oh.lies (os.below b2).lies).mono ?_
  rintro e G5 ⟨rfl, hb⟩
  replace b2 := b2.trans (hb.mono b2.size)
  replace Bg := Bg.below hb
  replace og' := og'.below hb
  replace oh := oh.below hb
  clear hb
  have p0 := Bg.cell 0 _ rfl
  have p1 := Bg.cell 1 _ rfl
  have p2 := Bg.cell 2 _ rfl
  go_wp2_with fail
  clear p0 p1 p2
  refine (hhd _ _ _ og'.lies).mono ?_
  rintro e G6 ⟨rfl, hb⟩
  replace b2 := b2.trans (hb.mono b2.size)
  replace Bg := Bg.below hb
  replace og' := og'.below hb
  replace oh := oh.below hb
  clear hb
  go_wp2
  go_ret
  exact ⟨rfl, hb0.trans (b2.mono hb0.size)⟩

end Go.Proofs.Ytjaoggkpnjkkpaa

/- The law FnNumbers, walked: at every list of bytes it answers true, and it writes into nothing that was there. -/
import Derived.Test.YtbionobcbbmbjabNumReg
namespace Go.Proofs.Ytbionobcbbmbjab
open Go.RowKit
set_option linter.unusedVariables false
set_option linter.unusedSimpArgs false

theorem lwBig_b (a : Option Addr) (n cap : Nat) (w : World) (hm : n ≤ 9223372036854775807) :
    Calls Try.prog 8 #[.slice a n cap] w fun e w' => e = .returned (.bool (decide (1048576 < (n : Int)))) ∧ w' = w := by
  go_enter Try.func8, Try.ntmps8
  go_wp2
  go_ret
  exact ⟨rfl, rfl⟩

set_option maxHeartbeats 8000000 in
theorem numFn (a : Option Addr) (cap : Nat) (zs : List Int) (w : World) (h : Row .u8 w a zs) (hu : ∀ i, 0 ≤ zs.getD i 0 ∧ zs.getD i 0 ≤ 255) (hm : zs.length ≤ 9223372036854775807) :
    Calls Try.prog 3 #[.slice a zs.length cap] w fun e w' => e = .returned (.bool true) ∧ Below w.heap.size w w' := by
  by_cases hle : zs.length ≤ 1048576
  · have hd : decide (1048576 < (zs.length : Int)) = false := decide_eq_false (by omega)
    go_enter Try.func3, Try.ntmps3
    go_wp2_with fail
    refine (lwBig_b a zs.length cap w hm).mono ?_
    rintro e w0 ⟨rfl, rfl⟩
    rw [hd]
    go_wp2_with fail
    refine (drawRead_any a cap zs w0 h hu hle).mono ?_
    rintro e w1 ⟨bd, kd, ds, rfl, hdl, hdu, hRd, b1⟩
    go_wp2_with fail
    refine (implRead_any bd kd ds w1 hRd hdu (by omega)).mono ?_
    rintro e w2 ⟨au, ku, rfl, ou, hb2⟩
    replace hRd := hRd.below hb2
    have b2 := b1.trans (hb2.mono b1.size)
    have RTu : Hid (readC ds = 0 → packC (readR ds) = 0 ∧ packR (readR ds) = ds) := fun e => pack_read ds hdu (by cases hp : packedB ds with | true => rfl | false => simp [readC, hp] at e)
    have hul := readR_le ds
    generalize hcu : readC ds = cu at *
    generalize hru : readR ds = us at *
    go_wp2_with fail
    have Bu := Box.new w2 (.int .i64 cu) (.slice au us.length ku) 27
    replace ou := ou.alloc (.cells #[.int .i64 cu, .slice au us.length ku] 27)
    replace hRd := hRd.below ((Below.refl _ _).alloc (Nat.le_refl _) (.cells #[.int .i64 cu, .slice au us.length ku] 27))
    replace b2 := b2.alloc b2.size (.cells #[.int .i64 cu, .slice au us.length ku] 27)
    generalize (w2.alloc (.cells #[.int .i64 cu, .slice au us.length ku] 27)) = W2 at *
    have hRu := Row.own ou
    clear ou b1 hb2
    refine (drawPack_any a cap zs W2 (h.below b2) hu hle).mono ?_
    rintro e w3 ⟨bl, kl, ls, rfl, hll, hRl, hb3⟩
    replace hRd := hRd.below hb3
    replace hRu := hRu.below hb3
    replace Bu := Bu.below hb3
    have b3 := b2.trans (hb3.mono b2.size)
    clear b2 hb3
    go_wp2_with fail
    refine (implPack_any bl kl ls w3 hRl (by omega)).mono ?_
    rintro e w4 ⟨ap, kp, rfl, op, hb4⟩
    replace hRd := hRd.below hb4
    replace hRu := hRu.below hb4
    replace hRl := hRl.below hb4
    replace Bu := Bu.below hb4
    have b4 := b3.trans (hb4.mono b3.size)
    clear b3 hb4
    have RTp : Hid (packC ls = 0 → readC (packR ls) = 0 ∧ readR (packR ls) = ls) := read_pack ls
    have hpl := packR_le ls
    have hpu : ∀ i, 0 ≤ (packR ls).getD i 0 ∧ (packR ls).getD i 0 ≤ 255 := packR_u8 ls
    generalize hcp : packC ls = cp at *
    generalize hrp : packR ls = ps at *
    go_wp2_with fail
    have Bp := Box.new w4 (.int .i64 cp) (.slice ap ps.length kp) 31
    replace op := op.alloc (.cells #[.int .i64 cp, .slice ap ps.length kp] 31)
    have hb5 : Below w4.heap.size w4 (w4.alloc (.cells #[.int .i64 cp, .slice ap ps.length kp] 31)) := by go_grown
    replace hRd := hRd.below hb5
    replace hRu := hRu.below hb5
    replace hRl := hRl.below hb5
    replace Bu := Bu.below hb5
    replace b4 := b4.trans (hb5.mono b4.size)
    generalize (w4.alloc (.cells #[.int .i64 cp, .slice ap ps.length kp] 31)) = W4 at *
    have hRp := Row.own op
    clear op hb5
    refine (drawPut_any a cap zs W4 (h.below b4) hu hle).mono ?_
    rintro e w5 ⟨n, rfl, hb5⟩
    replace hRd := hRd.below hb5
    replace hRu := hRu.below hb5
    replace hRl := hRl.below hb5
    replace hRp := hRp.below hb5
    replace Bu := Bu.below hb5
    replace Bp := Bp.below hb5
    have b5 := b4.trans (hb5.mono b4.size)
    clear b4 hb5
    go_wp2_with fail
    refine (implPut_any n w5).mono ?_
    rintro e w6 ⟨aw, kw, rfl, ow, hb6⟩
    replace hRd := hRd.below hb6
    replace hRu := hRu.below hb6
    replace hRl := hRl.below hb6
    replace hRp := hRp.below hb6
    replace Bu := Bu.below hb6
    replace Bp := Bp.below hb6
    have b6 := b5.trans (hb6.mono b5.size)
    clear b5 hb6
    have RTw : Hid (putC n = 0 → getC (putL n) 0 = 0 ∧ getV (putL n) 0 = n) := get_of_put n
    have hwl : (putL n).length ≤ 2 := by unfold putL; split <;> simp [put2]
    have hwu : ∀ i, 0 ≤ (putL n).getD i 0 ∧ (putL n).getD i 0 ≤ 255 := putL_u8 n
    generalize hcw : putC n = cw at *
    generalize hrw : putL n = ws at *
    go_wp2_with fail
    have Bw := Box.new w6 (.int .i64 cw) (.slice aw ws.length kw) 31
    replace ow := ow.alloc (.cells #[.int .i64 cw, .slice aw ws.length kw] 31)
    have hb7 : Below w6.heap.size w6 (w6.alloc (.cells #[.int .i64 cw, .slice aw ws.length kw] 31)) := by go_grown
    replace hRd := hRd.below hb7
    replace hRu := hRu.below hb7
    replace hRl := hRl.below hb7
    replace hRp := hRp.below hb7
    replace Bu := Bu.below hb7
    replace Bp := Bp.below hb7
    replace b6 := b6.trans (hb7.mono b6.size)
    generalize (w6.alloc (.cells #[.int .i64 cw, .slice aw ws.length kw] 31)) = W6 at *
    have hRw := Row.own ow
    clear ow hb7
    refine (drawGet_any a cap zs W6 (h.below b6) hu hle).mono ?_
    rintro e w7 ⟨bx, kx, xs, p, rfl, hxl, hxu, hRx, hb7⟩
    replace hRd := hRd.below hb7
    replace hRu := hRu.below hb7
    replace hRl := hRl.below hb7
    replace hRp := hRp.below hb7
    replace hRw := hRw.below hb7
    replace Bu := Bu.below hb7
    replace Bp := Bp.below hb7
    replace Bw := Bw.below hb7
    have b7 := b6.trans (hb7.mono b6.size)
    clear b6 hb7
    go_wp2_with fail
    refine (drawSum_any a cap zs w7 (h.below b7) hu hle).mono ?_
    rintro e w8 ⟨bs, ks, ss, rfl, hsl, hsu, hRs, hb8⟩
    replace hRd := hRd.below hb8
    replace hRu := hRu.below hb8
    replace hRl := hRl.below hb8
    replace hRp := hRp.below hb8
    replace hRw := hRw.below hb8
    replace hRx := hRx.below hb8
    replace Bu := Bu.below hb8
    replace Bp := Bp.below hb8
    replace Bw := Bw.below hb8
    have b8 := b7.trans (hb8.mono b7.size)
    clear b7 hb8
    have pu1 := Bu.fst
    have pu2 := Bu.snd
    have pp1 := Bp.fst
    have pp2 := Bp.snd
    have pw1 := Bw.fst
    have pw2 := Bw.snd
    have hS0 : w8.cell? ⟨w2.heap.size, 0, none⟩ = some (.int .i64 cu) ∧ w8.cell? ⟨w2.heap.size, 1, none⟩ = some (.slice au us.length ku) ∧ w8.cell? ⟨w4.heap.size, 0, none⟩ = some (.int .i64 cp) ∧ w8.cell? ⟨w4.heap.size, 1, none⟩ = some (.slice ap ps.length kp) ∧ w8.cell? ⟨w6.heap.size, 0, none⟩ = some (.int .i64 cw) ∧ w8.cell? ⟨w6.heap.size, 1, none⟩ = some (.slice aw ws.length kw) := ⟨pu1, pu2, pp1, pp2, pw1, pw2⟩
    clear pu1 pu2 pp1 pp2 pw1 pw2 Bu Bp Bw
    have hW : Below w8.heap.size w8 w8.drew := (Below.refl _ _).drew
    -- the callees, by what is told of them here
    have q20 := fun w h => specRead_any bd kd ds w h hdu (by omega)
    rw [hcu, hru] at q20
    have q15 : ∀ w, Row .i64 w au us → cu = 0 → Calls Try.prog 12 #[.slice au us.length ku] w fun e w' => ∃ b c, e = .returned (.agg #[.int .i64 0, .slice b ds.length c]) ∧ w'.ownsRow w.heap.size 5 1 (.slice b ds.length c) ds.length (ds.map (Value.int .u8)) ∧ Below w.heap.size w w' := by
      intro w hR h0
      have e := RTu.out h0
      have q := implPack_any au ku us w hR (by omega)
      rw [e.1, e.2] at q
      exact q
    have q22 := fun w h => specPack_any bl kl ls w h (by omega)
    rw [hcp, hrp] at q22
    have q13 : ∀ w, Row .u8 w ap ps → cp = 0 → Calls Try.prog 10 #[.slice ap ps.length kp] w fun e w' => ∃ b c, e = .returned (.agg #[.int .i64 0, .slice b ls.length c]) ∧ w'.ownsRow w.heap.size 2 1 (.slice b ls.length c) ls.length (ls.map (Value.int .i64)) ∧ Below w.heap.size w w' := by
      intro w hR h0
      have e := RTp.out h0
      have q := implRead_any ap kp ps w hR hpu (by omega)
      rw [e.1, e.2] at q
      exact q
    have q24 := fun w => specPut_any n w
    rw [hcw, hrw] at q24
    have q25 : ∀ w, Row .u8 w aw ws → cw = 0 → Calls Try.prog 22 #[.slice aw ws.length kw, .int .i64 0] w fun e w' => e = .returned (.agg #[.int .i64 0, .int .i64 n]) ∧ Below w.heap.size w w' := by
      intro w hR h0
      have e := RTw.out h0
      have q := implGet_any aw kw ws 0 w hR hwu (by omega)
      rw [e.1, e.2] at q
      exact q
    have q26 := fun w h => implSum_any bs ks ss w h hsu (by omega)
    have q27 := fun w h => specSum_any bs ks ss w h hsu (by omega)
    generalize sumC ss = cs at q26 q27
    generalize sumV ss = vs at q26 q27
    go_wp2_with fail
    refine numReg _ a bd bl bx bs au ap aw zs.length cap kd kl kx ks ku kp kw xs.length w2.heap.size w4.heap.size w6.heap.size ds ls ss us ps ws n p cu cp cw cs vs w8 hRd hRu hRl hRp hRw hRs (by omega) (by omega) hS0 q20 q15 q22 q13 q24 q25 q26 q27 ?_
    clear q20 q15 q22 q13 q24 q25 q26 q27 RTu RTp RTw hcu hru hcp hrp hcw hrw hS0 hW hRd hRu hRl hRp hRw hRs
    intro u33 u34 u35 u36 u37 u38 u39 u40 u41 u42 u43 u44 u45 u46 u47 u48 u49 u50 u51 u52 u53 u54 u55 u56 u57 u58 u59 u60 u61 u62 u63 u64 u65 u66 u67 u68 u69 u70 u71 u72 u73 u74 u75 u76 u77 u78 u79 u80 u81 u82 u83 u84 u85 u86 u87 u88 u89 u90 u91 u92 u93 u94 u95 u96 u97 u98 u99 u100 u101 u102 u103 u104 u105 u106 u107 u108 u109 u110 u111 u112 u113 u114 u115 u116 u117 u118 u119 w9 hb9
    have hRx := hRx.below hb9
    have b9 := b8.trans (hb9.mono b8.size)
    clear hb9 b8
    have g25 := fun w h => implGet_any bx kx xs p w h hxu (by omega)
    have g28 := fun w h => specGet_any bx kx xs p w h hxu (by omega)
    generalize getC xs p = cg at g25 g28
    generalize getV xs p = vg at g25 g28
    have f40a := fieldN0
    have f40b := fieldN1
    have ec : (cg == cg) = true := by simp
    have ev : (vg == vg) = true := by simp
    go_wp2_with fail
    refine (g25 _ hRx).mono ?_
    rintro e w10 ⟨rfl, hb⟩
    replace hRx := hRx.below hb
    replace b9 := b9.trans (hb.mono b9.size)
    clear hb
    go_wp2_with fail
    refine (g28 _ hRx).mono ?_
    rintro e w11 ⟨rfl, hb⟩
    replace hRx := hRx.below hb
    replace b9 := b9.trans (hb.mono b9.size)
    clear hb
    go_wp2_with fail
    refine (g25 _ hRx).mono ?_
    rintro e w12 ⟨rfl, hb⟩
    replace hRx := hRx.below hb
    replace b9 := b9.trans (hb.mono b9.size)
    clear hb
    go_wp2_with fail
    refine (g28 _ hRx).mono ?_
    rintro e w13 ⟨rfl, hb⟩
    replace b9 := b9.trans (hb.mono b9.size)
    clear hb
    go_wp2
    go_ret
    exact ⟨rfl, b9⟩
  · have hd : decide (1048576 < (zs.length : Int)) = true := decide_eq_true (by omega)
    go_enter Try.func3, Try.ntmps3
    go_wp2_with fail
    refine (lwBig_b a zs.length cap w hm).mono ?_
    rintro e w1 ⟨rfl, rfl⟩
    rw [hd]
    go_wp2
    go_ret
    exact ⟨rfl, Below.refl _ _⟩

end Go.Proofs.Ytbionobcbbmbjab

/- The law FnTxns, walked: at every list of bytes it answers true, and it writes into nothing that was there. No condition but that the variable errNoTxn holds an error. -/
import Derived.Test.YtjaoggkpnjkkpaaDoorDraw2h
import Derived.Test.YtjaoggkpnjkkpaaDoorDraw2f
import Derived.Test.YtjaoggkpnjkkpaaDoorLawBig
import Derived.Test.YtjaoggkpnjkkpaaDoorLawHelp
import Derived.Test.YtjaoggkpnjkkpaaDoorTxnPackI
import Derived.Test.YtjaoggkpnjkkpaaDoorTxnIdsI
import Derived.Test.YtjaoggkpnjkkpaaDoorTxnFindI
import Derived.Test.YtjaoggkpnjkkpaaDoorTxnSameI
import Derived.Test.YtjaoggkpnjkkpaaDoorQuiet1
import Derived.Test.YtjaoggkpnjkkpaaDoorTxnRegAB
import Derived.Test.YtjaoggkpnjkkpaaDoorTxnRegCD
import Derived.Test.YtjaoggkpnjkkpaaDoorTxnRegE
namespace Go.Proofs.YtjaoggkpnjkkpaaDoor
open Go.RowKit
open Go.BigFrame
set_option linter.unusedVariables false
set_option linter.unusedSimpArgs false

set_option maxRecDepth 100000 in
set_option maxHeartbeats 8000000 in
theorem txnsFn (a : Option Addr) (cap : Nat) (bs : List Int) (t0 : TypeId) (x0 : Value) (w : World) (hG : ErrVar w t0 x0) (h : Row .u8 w a bs) (hu : ∀ i, 0 ≤ bs.getD i 0 ∧ bs.getD i 0 ≤ 255) (hm : bs.length ≤ 9223372036854775807) :
    Calls Tryd.prog 3 #[.slice a bs.length cap] w fun e w' => e = .returned (.bool true) ∧ Below w.heap.size w w' := by
  by_cases hle : bs.length ≤ 1048576
  · have hd : decide (1048576 < (bs.length : Int)) = false := decide_eq_false (by omega)
    go_enter Tryd.func3, Tryd.ntmps3
    go_wp2_with fail
    refine (lwBig_any a bs.length cap w hm).mono ?_
    rintro e w1 ⟨rfl, hw⟩
    subst hw
    rw [hd]
    have hb : Below w1.heap.size w1 w1 := Below.refl _ _
    go_wp2_with fail
    refine (drawReadTxn_any a cap bs _ h hu hle).mono ?_
    rintro e w2 ⟨b0, k0, ds, rfl, hdl, hdu, hd0, hb2⟩
    replace hG := hG.below hb2
    replace hb := hb.trans (hb2.mono hb.size)
    clear hb2
    have hiR := fun w hG h => implReadTxn_any b0 k0 ds t0 x0 w hG h hdu (by omega)
    have hsR := fun w h => specReadTxn_any b0 k0 ds w h hdu (by omega)
    have HR : Hid (rdC ds = 0 → _) := fun h => read_back hdu h
    have hul := rdT_le ds
    generalize rdC ds = uC at hiR hsR HR
    generalize rdT ds = TT at hiR hsR HR hul
    obtain ⟨ui, us, uq, uz⟩ := TT
    dsimp only at hiR hsR HR hul
    go_wp2_with fail
    refine (hiR _ hG hd0).mono ?_
    rintro e w3 ⟨ua, uc, rfl, oU, hb3⟩
    have hU : ActRow w3 ua uz := Lies.own oU
    clear oU hiR
    replace hG := hG.below hb3
    replace hd0 := hd0.below hb3
    replace hb := hb.trans (hb3.mono hb.size)
    clear hb3
    have hbA : Below w3.heap.size w3 (w3.alloc (.cells #[.int .i64 uC, .int .i64 ui, .int .i64 us, .int .i64 uq, .slice ua uz.length uc] 29)) := by go_grown
    have Bu := Blk.new w3 29 #[.int .i64 uC, .int .i64 ui, .int .i64 us, .int .i64 uq, .slice ua uz.length uc]
    replace hG := hG.below hbA
    replace hd0 := hd0.below hbA
    replace hU := hU.below hbA
    replace hb := hb.trans (hbA.mono hb.size)
    go_wp2_with fail
    generalize w3.alloc (.cells #[.int .i64 uC, .int .i64 ui, .int .i64 us, .int .i64 uq, .slice ua uz.length uc] 29) = W3 at hbA hb hG hd0 hU Bu
    clear hbA
    refine (drawPackTxn_any a cap bs _ (h.below hb) hu hle).mono ?_
    rintro e w4 ⟨i, s, q, ta, tc, zs, rfl, hzl, ht, hb4⟩
    replace ht : ActRow w4 ta zs := ht
    replace hG := hG.below hb4
    replace hd0 := hd0.below hb4
    replace hU := hU.below hb4
    replace Bu := Bu.below hb4
    replace hb := hb.trans (hb4.mono hb.size)
    clear hb4
    have hbA : Below w4.heap.size w4 (w4.alloc (.cells #[.int .i64 i, .int .i64 s, .int .i64 q, .slice ta zs.length tc] 27)) := by go_grown
    have Bt := Blk.new w4 27 #[.int .i64 i, .int .i64 s, .int .i64 q, .slice ta zs.length tc]
    replace hG := hG.below hbA
    replace hd0 := hd0.below hbA
    replace hU := hU.below hbA
    replace Bu := Bu.below hbA
    replace ht := ht.below hbA
    replace hb := hb.trans (hbA.mono hb.size)
    have hiP := fun w h => implPackTxn_any i s q ta tc zs w h (by omega)
    have hsP := fun w h => specPackTxn_any i s q ta tc zs w h (by omega)
    have hTF : ∀ (w : World) (h : ActRow w ta zs), Calls Tryd.prog 18 #[.agg #[.int .i64 i, .int .i64 s, .int .i64 q, .slice ta zs.length tc]] w fun e w' => e = .returned (.int .i64 (pkC i s q zs)) ∧ Below w.heap.size w w' := fun w h => txnFault_any i s q ta tc zs w h (by omega)
    have HP : Hid (pkC i s q zs = 0 → _) := fun h => pack_back h
    have hpu := pkR_u8 i s q zs
    have hpl := pkR_le i s q zs
    generalize pkC i s q zs = pC at hiP hsP hTF HP
    generalize pkR i s q zs = pb at hiP hsP HP hpu hpl
    have t0 := Bt.cell 0 _ rfl
    have t1 := Bt.cell 1 _ rfl
    have t2 := Bt.cell 2 _ rfl
    have t3 := Bt.cell 3 _ rfl
    go_wp2_with fail
    clear t0 t1 t2 t3
    generalize w4.alloc (.cells #[.int .i64 i, .int .i64 s, .int .i64 q, .slice ta zs.length tc] 27) = W4 at hbA hb hG hd0 hU Bu ht Bt
    clear hbA
    refine (hiP _ ht).mono ?_
    rintro e w5 ⟨pa, pc, rfl, oP, hb5⟩
    have hp : Row .u8 w5 pa pb := Row.own oP
    clear oP hiP
    replace hG := hG.below hb5
    replace hd0 := hd0.below hb5
    replace hU := hU.below hb5
    replace Bu := Bu.below hb5
    replace ht := ht.below hb5
    replace Bt := Bt.below hb5
    replace hb := hb.trans (hb5.mono hb.size)
    clear hb5
    have hbA : Below w5.heap.size w5 (w5.alloc (.cells #[.int .i64 pC, .slice pa pb.length pc] 33)) := by go_grown
    have Bp := Blk.new w5 33 #[.int .i64 pC, .slice pa pb.length pc]
    replace hG := hG.below hbA
    replace hd0 := hd0.below hbA
    replace hU := hU.below hbA
    replace Bu := Bu.below hbA
    replace ht := ht.below hbA
    replace Bt := Bt.below hbA
    replace hp := hp.below hbA
    replace hb := hb.trans (hbA.mono hb.size)
    go_wp2_with fail
    generalize w5.alloc (.cells #[.int .i64 pC, .slice pa pb.length pc] 33) = W5 at hbA hb hG hd0 hU Bu ht Bt hp Bp
    clear hbA
    refine (drawFindTxn_any a cap bs _ (h.below hb) hu hle).mono ?_
    rintro e w6 ⟨lv, ps, n, rfl, hpsl, hpsa, hRw, hb6⟩
    have hT : TxnsAt w6 lv (ps.map TxnP.d) := hRw.at
    have hsA : (ps.map TxnP.d).length + sumA (ps.map TxnP.d) ≤ 1048576 := by
      have := sumA_le5 (ds := ps.map TxnP.d) (fun d hd => by obtain ⟨p, hp, rfl⟩ := List.mem_map.1 hd; exact hpsa p hp)
      simp at this ⊢
      omega
    have hs5 : sumA (ps.map TxnP.d) ≤ 305 := by
      have := sumA_le5 (ds := ps.map TxnP.d) (fun d hd => by obtain ⟨p, hp, rfl⟩ := List.mem_map.1 hd; exact hpsa p hp)
      simp at this
      omega
    clear hRw hpsa
    replace hG := hG.below hb6
    replace hd0 := hd0.below hb6
    replace hU := hU.below hb6
    replace Bu := Bu.below hb6
    replace ht := ht.below hb6
    replace Bt := Bt.below hb6
    replace hp := hp.below hb6
    replace Bp := Bp.below hb6
    replace hb := hb.trans (hb6.mono hb.size)
    clear hb6
    generalize ps.map TxnP.d = D at hT hsA hs5
    have hiF := fun w h => implFindTxn_any lv D n w h hsA
    have hsF := fun w h => specFindTxn_any lv D n w h hsA
    have hiI := fun w h => implIdsOf_any lv D w h hsA
    have hsI := fun w h => specIdsOf_any lv D w h hsA
    have HF : Hid (findC D n = 0 → _) := fun h => find_id h
    have HI : Hid (idsC D = 0 → _) := fun h => ids_len h
    have hfl := findR_le D n
    have hil := idsR_le D
    generalize findC D n = fC at hiF hsF HF
    generalize findT D n = FT at hiF hsF HF hfl
    obtain ⟨fi, fs, fq, fz⟩ := FT
    dsimp only at hiF hsF HF hfl
    generalize idsC D = iC at hiI hsI HI
    generalize idsR D = iL at hiI hsI HI hil
    obtain ⟨la, lc, rfl⟩ := hT.shape
    go_wp2_with fail
    refine (hiF _ hT).mono ?_
    rintro e w7 ⟨fa, fc, rfl, oF, hb7⟩
    have hFr : ActRow w7 fa fz := Lies.own oF
    clear oF hiF
    replace hG := hG.below hb7
    replace hd0 := hd0.below hb7
    replace hU := hU.below hb7
    replace Bu := Bu.below hb7
    replace ht := ht.below hb7
    replace Bt := Bt.below hb7
    replace hp := hp.below hb7
    replace Bp := Bp.below hb7
    replace hT := hT.below hb7
    replace hb := hb.trans (hb7.mono hb.size)
    clear hb7
    have hbA : Below w7.heap.size w7 (w7.alloc (.cells #[.int .i64 fC, .int .i64 fi, .int .i64 fs, .int .i64 fq, .slice fa fz.length fc] 29)) := by go_grown
    have Bf := Blk.new w7 29 #[.int .i64 fC, .int .i64 fi, .int .i64 fs, .int .i64 fq, .slice fa fz.length fc]
    replace hG := hG.below hbA
    replace hd0 := hd0.below hbA
    replace hU := hU.below hbA
    replace Bu := Bu.below hbA
    replace ht := ht.below hbA
    replace Bt := Bt.below hbA
    replace hp := hp.below hbA
    replace Bp := Bp.below hbA
    replace hT := hT.below hbA
    replace hFr := hFr.below hbA
    replace hb := hb.trans (hbA.mono hb.size)
    go_wp2_with fail
    generalize w7.alloc (.cells #[.int .i64 fC, .int .i64 fi, .int .i64 fs, .int .i64 fq, .slice fa fz.length fc] 29) = W7 at hbA hb hG hd0 hU Bu ht Bt hp Bp hT hFr Bf
    clear hbA
    refine (hiI _ hT).mono ?_
    rintro e w8 ⟨ia, ic, rfl, oI, hb8⟩
    clear oI hiI
    replace hG := hG.below hb8
    replace hd0 := hd0.below hb8
    replace hU := hU.below hb8
    replace Bu := Bu.below hb8
    replace ht := ht.below hb8
    replace Bt := Bt.below hb8
    replace hp := hp.below hb8
    replace Bp := Bp.below hb8
    replace hT := hT.below hb8
    replace hFr := hFr.below hb8
    replace Bf := Bf.below hb8
    replace hb := hb.trans (hb8.mono hb.size)
    clear hb8
    have hbA : Below w8.heap.size w8 (w8.alloc (.cells #[.int .i64 iC, .slice ia iL.length ic] 41)) := by go_grown
    have Bi := Blk.new w8 41 #[.int .i64 iC, .slice ia iL.length ic]
    replace hG := hG.below hbA
    replace hd0 := hd0.below hbA
    replace hU := hU.below hbA
    replace Bu := Bu.below hbA
    replace ht := ht.below hbA
    replace Bt := Bt.below hbA
    replace hp := hp.below hbA
    replace Bp := Bp.below hbA
    replace hT := hT.below hbA
    replace hFr := hFr.below hbA
    replace Bf := Bf.below hbA
    replace hb := hb.trans (hbA.mono hb.size)
    have n1 : (uC != uC) = false := by simp
    have n2 : (fC != fC) = false := by simp
    have n3 : (iC != iC) = false := by simp
    have hf0 := fieldT0
    have hf1 := fieldT1
    have hf2 := fieldB0
    have hf3 := fieldB1
    have hf4 := fieldN0
    go_wp2_with fail
    generalize w8.alloc (.cells #[.int .i64 iC, .slice ia iL.length ic] 41) = W at hbA hb hG hd0 hU Bu ht Bt hp Bp hT hFr Bf Bi
    clear hbA
    refine region_cut 31 73 (.bool false) (fun w' => Below W.heap.size W w') ?_ ?_
    · have hPu : uC = 0 → ∀ w : World, ActRow w ua uz → Calls Tryd.prog 8 #[.agg #[.int .i64 ui, .int .i64 us, .int .i64 uq, .slice ua uz.length uc]] w fun e w' => ∃ b c, e = .returned (.agg #[.int .i64 (pkC ui us uq uz), .slice b ds.length c]) ∧ w'.ownsRow w.heap.size 5 1 (.slice b ds.length c) ds.length (ds.map (Value.int .u8)) ∧ Below w.heap.size w w' := fun h0 w h => by
        have := implPackTxn_any ui us uq ua uc uz w h (by omega)
        rw [HR.out h0] at this
        exact this
      by_cases hu0 : uC = 0
      · by_cases hf0' : fC = 0
        · by_cases hi0 : iC = 0
          · exact txnReg111 b0 ua la fa ia k0 uc lc fc ic w3.heap.size w7.heap.size w8.heap.size ds iL D uz fz uC ui us uq n fC fi fs fq iC (pkC ui us uq uz) (.slice a bs.length cap) (undef) (.bool false) (.pointer (some ⟨w4.heap.size, 0, none⟩)) (.pointer (some ⟨w5.heap.size, 0, none⟩)) (.slice a bs.length cap) (.bool false) (.slice a bs.length cap) (.slice b0 ds.length k0) (.slice b0 ds.length k0) (.agg #[.int .i64 uC, .int .i64 ui, .int .i64 us, .int .i64 uq, .slice ua uz.length uc]) (.slice a bs.length cap) (.agg #[.int .i64 i, .int .i64 s, .int .i64 q, .slice ta zs.length tc]) (.agg #[.int .i64 i, .int .i64 s, .int .i64 q, .slice ta zs.length tc]) (.agg #[.int .i64 pC, .slice pa pb.length pc]) (.tuple #[.slice la D.length lc, .int .i64 n]) (.slice a bs.length cap) (.tuple #[.slice la D.length lc, .int .i64 n]) (.slice la D.length lc) (.int .i64 n) (.slice la D.length lc) (.int .i64 n) (.agg #[.int .i64 fC, .int .i64 fi, .int .i64 fs, .int .i64 fq, .slice fa fz.length fc]) (.slice la D.length lc) (.agg #[.int .i64 iC, .slice ia iL.length ic]) W hd0 hU hT hFr hdl hs5 hfl Bu Bf Bi hsR hsF hsI hPu HF.out HI.out hu0 hf0' hi0
          · exact txnReg110 b0 ua la fa ia k0 uc lc fc ic w3.heap.size w7.heap.size w8.heap.size ds iL D uz fz uC ui us uq n fC fi fs fq iC (pkC ui us uq uz) (.slice a bs.length cap) (undef) (.bool false) (.pointer (some ⟨w4.heap.size, 0, none⟩)) (.pointer (some ⟨w5.heap.size, 0, none⟩)) (.slice a bs.length cap) (.bool false) (.slice a bs.length cap) (.slice b0 ds.length k0) (.slice b0 ds.length k0) (.agg #[.int .i64 uC, .int .i64 ui, .int .i64 us, .int .i64 uq, .slice ua uz.length uc]) (.slice a bs.length cap) (.agg #[.int .i64 i, .int .i64 s, .int .i64 q, .slice ta zs.length tc]) (.agg #[.int .i64 i, .int .i64 s, .int .i64 q, .slice ta zs.length tc]) (.agg #[.int .i64 pC, .slice pa pb.length pc]) (.tuple #[.slice la D.length lc, .int .i64 n]) (.slice a bs.length cap) (.tuple #[.slice la D.length lc, .int .i64 n]) (.slice la D.length lc) (.int .i64 n) (.slice la D.length lc) (.int .i64 n) (.agg #[.int .i64 fC, .int .i64 fi, .int .i64 fs, .int .i64 fq, .slice fa fz.length fc]) (.slice la D.length lc) (.agg #[.int .i64 iC, .slice ia iL.length ic]) W hd0 hU hT hFr hdl hs5 hfl Bu Bf Bi hsR hsF hsI hPu HF.out HI.out hu0 hf0' hi0
        · by_cases hi0 : iC = 0
          · exact txnReg101 b0 ua la fa ia k0 uc lc fc ic w3.heap.size w7.heap.size w8.heap.size ds iL D uz fz uC ui us uq n fC fi fs fq iC (pkC ui us uq uz) (.slice a bs.length cap) (undef) (.bool false) (.pointer (some ⟨w4.heap.size, 0, none⟩)) (.pointer (some ⟨w5.heap.size, 0, none⟩)) (.slice a bs.length cap) (.bool false) (.slice a bs.length cap) (.slice b0 ds.length k0) (.slice b0 ds.length k0) (.agg #[.int .i64 uC, .int .i64 ui, .int .i64 us, .int .i64 uq, .slice ua uz.length uc]) (.slice a bs.length cap) (.agg #[.int .i64 i, .int .i64 s, .int .i64 q, .slice ta zs.length tc]) (.agg #[.int .i64 i, .int .i64 s, .int .i64 q, .slice ta zs.length tc]) (.agg #[.int .i64 pC, .slice pa pb.length pc]) (.tuple #[.slice la D.length lc, .int .i64 n]) (.slice a bs.length cap) (.tuple #[.slice la D.length lc, .int .i64 n]) (.slice la D.length lc) (.int .i64 n) (.slice la D.length lc) (.int .i64 n) (.agg #[.int .i64 fC, .int .i64 fi, .int .i64 fs, .int .i64 fq, .slice fa fz.length fc]) (.slice la D.length lc) (.agg #[.int .i64 iC, .slice ia iL.length ic]) W hd0 hU hT hFr hdl hs5 hfl Bu Bf Bi hsR hsF hsI hPu HF.out HI.out hu0 hf0' hi0
          · exact txnReg100 b0 ua la fa ia k0 uc lc fc ic w3.heap.size w7.heap.size w8.heap.size ds iL D uz fz uC ui us uq n fC fi fs fq iC (pkC ui us uq uz) (.slice a bs.length cap) (undef) (.bool false) (.pointer (some ⟨w4.heap.size, 0, none⟩)) (.pointer (some ⟨w5.heap.size, 0, none⟩)) (.slice a bs.length cap) (.bool false) (.slice a bs.length cap) (.slice b0 ds.length k0) (.slice b0 ds.length k0) (.agg #[.int .i64 uC, .int .i64 ui, .int .i64 us, .int .i64 uq, .slice ua uz.length uc]) (.slice a bs.length cap) (.agg #[.int .i64 i, .int .i64 s, .int .i64 q, .slice ta zs.length tc]) (.agg #[.int .i64 i, .int .i64 s, .int .i64 q, .slice ta zs.length tc]) (.agg #[.int .i64 pC, .slice pa pb.length pc]) (.tuple #[.slice la D.length lc, .int .i64 n]) (.slice a bs.length cap) (.tuple #[.slice la D.length lc, .int .i64 n]) (.slice la D.length lc) (.int .i64 n) (.slice la D.length lc) (.int .i64 n) (.agg #[.int .i64 fC, .int .i64 fi, .int .i64 fs, .int .i64 fq, .slice fa fz.length fc]) (.slice la D.length lc) (.agg #[.int .i64 iC, .slice ia iL.length ic]) W hd0 hU hT hFr hdl hs5 hfl Bu Bf Bi hsR hsF hsI hPu HF.out HI.out hu0 hf0' hi0
      · by_cases hf0' : fC = 0
        · by_cases hi0 : iC = 0
          · exact txnReg011 b0 ua la fa ia k0 uc lc fc ic w3.heap.size w7.heap.size w8.heap.size ds iL D uz fz uC ui us uq n fC fi fs fq iC (pkC ui us uq uz) (.slice a bs.length cap) (undef) (.bool false) (.pointer (some ⟨w4.heap.size, 0, none⟩)) (.pointer (some ⟨w5.heap.size, 0, none⟩)) (.slice a bs.length cap) (.bool false) (.slice a bs.length cap) (.slice b0 ds.length k0) (.slice b0 ds.length k0) (.agg #[.int .i64 uC, .int .i64 ui, .int .i64 us, .int .i64 uq, .slice ua uz.length uc]) (.slice a bs.length cap) (.agg #[.int .i64 i, .int .i64 s, .int .i64 q, .slice ta zs.length tc]) (.agg #[.int .i64 i, .int .i64 s, .int .i64 q, .slice ta zs.length tc]) (.agg #[.int .i64 pC, .slice pa pb.length pc]) (.tuple #[.slice la D.length lc, .int .i64 n]) (.slice a bs.length cap) (.tuple #[.slice la D.length lc, .int .i64 n]) (.slice la D.length lc) (.int .i64 n) (.slice la D.length lc) (.int .i64 n) (.agg #[.int .i64 fC, .int .i64 fi, .int .i64 fs, .int .i64 fq, .slice fa fz.length fc]) (.slice la D.length lc) (.agg #[.int .i64 iC, .slice ia iL.length ic]) W hd0 hU hT hFr hdl hs5 hfl Bu Bf Bi hsR hsF hsI hPu HF.out HI.out hu0 hf0' hi0
          · exact txnReg010 b0 ua la fa ia k0 uc lc fc ic w3.heap.size w7.heap.size w8.heap.size ds iL D uz fz uC ui us uq n fC fi fs fq iC (pkC ui us uq uz) (.slice a bs.length cap) (undef) (.bool false) (.pointer (some ⟨w4.heap.size, 0, none⟩)) (.pointer (some ⟨w5.heap.size, 0, none⟩)) (.slice a bs.length cap) (.bool false) (.slice a bs.length cap) (.slice b0 ds.length k0) (.slice b0 ds.length k0) (.agg #[.int .i64 uC, .int .i64 ui, .int .i64 us, .int .i64 uq, .slice ua uz.length uc]) (.slice a bs.length cap) (.agg #[.int .i64 i, .int .i64 s, .int .i64 q, .slice ta zs.length tc]) (.agg #[.int .i64 i, .int .i64 s, .int .i64 q, .slice ta zs.length tc]) (.agg #[.int .i64 pC, .slice pa pb.length pc]) (.tuple #[.slice la D.length lc, .int .i64 n]) (.slice a bs.length cap) (.tuple #[.slice la D.length lc, .int .i64 n]) (.slice la D.length lc) (.int .i64 n) (.slice la D.length lc) (.int .i64 n) (.agg #[.int .i64 fC, .int .i64 fi, .int .i64 fs, .int .i64 fq, .slice fa fz.length fc]) (.slice la D.length lc) (.agg #[.int .i64 iC, .slice ia iL.length ic]) W hd0 hU hT hFr hdl hs5 hfl Bu Bf Bi hsR hsF hsI hPu HF.out HI.out hu0 hf0' hi0
        · by_cases hi0 : iC = 0
          · exact txnReg001 b0 ua la fa ia k0 uc lc fc ic w3.heap.size w7.heap.size w8.heap.size ds iL D uz fz uC ui us uq n fC fi fs fq iC (pkC ui us uq uz) (.slice a bs.length cap) (undef) (.bool false) (.pointer (some ⟨w4.heap.size, 0, none⟩)) (.pointer (some ⟨w5.heap.size, 0, none⟩)) (.slice a bs.length cap) (.bool false) (.slice a bs.length cap) (.slice b0 ds.length k0) (.slice b0 ds.length k0) (.agg #[.int .i64 uC, .int .i64 ui, .int .i64 us, .int .i64 uq, .slice ua uz.length uc]) (.slice a bs.length cap) (.agg #[.int .i64 i, .int .i64 s, .int .i64 q, .slice ta zs.length tc]) (.agg #[.int .i64 i, .int .i64 s, .int .i64 q, .slice ta zs.length tc]) (.agg #[.int .i64 pC, .slice pa pb.length pc]) (.tuple #[.slice la D.length lc, .int .i64 n]) (.slice a bs.length cap) (.tuple #[.slice la D.length lc, .int .i64 n]) (.slice la D.length lc) (.int .i64 n) (.slice la D.length lc) (.int .i64 n) (.agg #[.int .i64 fC, .int .i64 fi, .int .i64 fs, .int .i64 fq, .slice fa fz.length fc]) (.slice la D.length lc) (.agg #[.int .i64 iC, .slice ia iL.length ic]) W hd0 hU hT hFr hdl hs5 hfl Bu Bf Bi hsR hsF hsI hPu HF.out HI.out hu0 hf0' hi0
          · exact txnReg000 b0 ua la fa ia k0 uc lc fc ic w3.heap.size w7.heap.size w8.heap.size ds iL D uz fz uC ui us uq n fC fi fs fq iC (pkC ui us uq uz) (.slice a bs.length cap) (undef) (.bool false) (.pointer (some ⟨w4.heap.size, 0, none⟩)) (.pointer (some ⟨w5.heap.size, 0, none⟩)) (.slice a bs.length cap) (.bool false) (.slice a bs.length cap) (.slice b0 ds.length k0) (.slice b0 ds.length k0) (.agg #[.int .i64 uC, .int .i64 ui, .int .i64 us, .int .i64 uq, .slice ua uz.length uc]) (.slice a bs.length cap) (.agg #[.int .i64 i, .int .i64 s, .int .i64 q, .slice ta zs.length tc]) (.agg #[.int .i64 i, .int .i64 s, .int .i64 q, .slice ta zs.length tc]) (.agg #[.int .i64 pC, .slice pa pb.length pc]) (.tuple #[.slice la D.length lc, .int .i64 n]) (.slice a bs.length cap) (.tuple #[.slice la D.length lc, .int .i64 n]) (.slice la D.length lc) (.int .i64 n) (.slice la D.length lc) (.int .i64 n) (.agg #[.int .i64 fC, .int .i64 fi, .int .i64 fs, .int .i64 fq, .slice fa fz.length fc]) (.slice la D.length lc) (.agg #[.int .i64 iC, .slice ia iL.length ic]) W hd0 hU hT hFr hdl hs5 hfl Bu Bf Bi hsR hsF hsI hPu HF.out HI.out hu0 hf0' hi0
    · intro mid w9 hlen hW
      match mid, hlen with
      | m0 :: m1 :: m2 :: m3 :: m4 :: m5 :: m6 :: m7 :: m8 :: m9 :: m10 :: m11 :: m12 :: m13 :: m14 :: m15 :: m16 :: m17 :: m18 :: m19 :: m20 :: m21 :: m22 :: m23 :: m24 :: m25 :: m26 :: m27 :: m28 :: m29 :: m30 :: m31 :: m32 :: m33 :: m34 :: m35 :: m36 :: m37 :: m38 :: m39 :: m40 :: m41 :: m42 :: m43 :: m44 :: m45 :: m46 :: m47 :: m48 :: m49 :: m50 :: m51 :: m52 :: m53 :: m54 :: m55 :: m56 :: m57 :: m58 :: m59 :: m60 :: m61 :: m62 :: m63 :: m64 :: m65 :: m66 :: m67 :: m68 :: m69 :: m70 :: m71 :: m72 :: [], _ =>
        simp only [List.toList_toArray, List.take_succ_cons, List.take_zero, List.drop_succ_cons, List.drop_zero, List.cons_append, List.nil_append]
        replace hG := hG.below hW
        replace ht := ht.below hW
        replace Bt := Bt.below hW
        replace hp := hp.below hW
        replace Bp := Bp.below hW
        replace hb := hb.trans (hW.mono hb.size)
        clear hW hd0 hU hFr Bu Bf Bi hT n1 n2 n3 hsR hsF hsI HR HF HI
        have c0 := Bp.cell 0 _ rfl
        by_cases hp0 : pC = 0
        · have hpn : (pC != 0) = false := by simp [hp0]
          have hiR2 := fun w hG h => implReadTxn_any pa pc pb t0 x0 w hG h hpu (by omega)
          obtain ⟨g1, g2⟩ := HP.out hp0
          rw [g1, g2] at hiR2
          dsimp only at hiR2
          subst hp0
          clear HP g1 g2
          go_wp2_with fail
          clear c0
          have hW : Below w9.heap.size w9 w9.drew := (Below.refl _ _).drew
          have hnn : Nonempty (Lat w9) := ⟨⟨w9, Below.refl _ _⟩⟩
          have c0 := Bp.lat 0 _ rfl
          have c1 := Bp.lat 1 _ rfl
          have t0 := Bt.lat 0 _ rfl
          have t1 := Bt.lat 1 _ rfl
          have t2 := Bt.lat 2 _ rfl
          have t3 := Bt.lat 3 _ rfl
          refine text_begin (S := fun w' => ∃ u : Lat w9, w' = u.val) (by kernel_rfl) ?_
          have hsd : Hid (True) := trivial
          generalize w9.drew = wd at hW ⊢
          refine seg_range [(0, 2)] 14 (by kernel_rfl) (by kernel_rfl) (by kernel_rfl) (by kernel_rfl) (by kernel_rfl) ⟨⟨_, hW⟩, rfl⟩ ?_
          simp only [pickR, List.toList_toArray, List.flatMap_cons, List.flatMap_nil, List.drop_succ_cons, List.drop_zero, List.take_succ_cons, List.take_zero, List.cons_append, List.nil_append, List.append_nil]
          repeat go_big_quiet_step (fail)
          refine wpQuiet_nil ?_
          refine call_at 2 (some 123) 6 #[.slice pa pb.length pc] 13 (by kernel_rfl) (by kernel_rfl) (by kernel_rfl) (by kernel_rfl) (by kernel_rfl) ?_
          refine (hiR2 _ (hG.below hW) (hp.below hW)).mono ?_
          rintro e v1 ⟨rb0, rc0, rfl, o9, hb9⟩
          replace hW := hW.trans (hb9.mono hW.size)
          clear o9
          clear hb9
          refine ⟨_, rfl, ⟨⟨_, hW⟩, rfl⟩, ?_⟩
          simp only [Act.put, List.setIfInBounds_toArray, List.set_cons_zero, List.set_cons_succ]
          refine seg_range [(3, 5), (11, 1)] 7 (by kernel_rfl) (by kernel_rfl) (by kernel_rfl) (by kernel_rfl) (by kernel_rfl) ⟨⟨_, hW⟩, rfl⟩ ?_
          simp only [pickR, List.toList_toArray, List.flatMap_cons, List.flatMap_nil, List.drop_succ_cons, List.drop_zero, List.take_succ_cons, List.take_zero, List.cons_append, List.nil_append, List.append_nil]
          repeat go_big_quiet_step (fail)
          refine wpQuiet_nil ?_
          refine two_at 8 12 6 (by kernel_rfl) (by kernel_rfl) ?_ ?_
          · skip
            refine op_call 8 (some 129) 6 #[.slice pa pb.length pc] (by kernel_rfl) (by kernel_rfl) (by kernel_rfl) ?_
            refine (hiR2 _ (hG.below hW) (hp.below hW)).mono ?_
            rintro e v2 ⟨rb, rc, rfl, o9, hb9⟩
            replace hW := hW.trans (hb9.mono hW.size)
            have hZ : ActRow v2 rb zs := Lies.own o9
            clear o9
            clear hb9
            refine ⟨_, rfl, ⟨⟨_, hW⟩, rfl⟩, ?_⟩
            simp only [Act.put, List.setIfInBounds_toArray, List.set_cons_zero, List.set_cons_succ]
            refine seg_range [(9, 1)] 5 (by kernel_rfl) (by kernel_rfl) (by kernel_rfl) (by kernel_rfl) (by kernel_rfl) ⟨⟨_, hW⟩, rfl⟩ ?_
            simp only [pickR, List.toList_toArray, List.flatMap_cons, List.flatMap_nil, List.drop_succ_cons, List.drop_zero, List.take_succ_cons, List.take_zero, List.cons_append, List.nil_append, List.append_nil]
            repeat go_big_quiet_step (fail)
            refine wpQuiet_nil ?_
            refine two_at 10 12 4 (by kernel_rfl) (by kernel_rfl) ?_ ?_
            · skip
              refine op_g 10 _ rfl (by kernel_rfl) ?_
              have hb9 : Below v2.heap.size v2 (v2.alloc (.cells #[.int .i64 i, .int .i64 s, .int .i64 q, .slice rb zs.length rc] 27)) := by go_grown
              have B1 := Blk.new v2 27 #[.int .i64 i, .int .i64 s, .int .i64 q, .slice rb zs.length rc]
              replace hW := hW.trans (hb9.mono hW.size)
              replace hZ := hZ.below hb9
              go_wp2
              refine ThenGo.to ⟨⟨⟨_, hW⟩, rfl⟩, ?_⟩
              generalize v2.alloc (.cells #[.int .i64 i, .int .i64 s, .int .i64 q, .slice rb zs.length rc] 27) = z3 at hb9 hW B1 hZ ⊢
              clear hb9
              generalize v2.heap.size = g1 at B1 ⊢
              refine one_g 12 _ 3 (by kernel_rfl) rfl (by kernel_rfl) (by kernel_rfl) ?_
              have hb9 : Below z3.heap.size z3 (z3.alloc (.cells #[.int .i64 i, .int .i64 s, .int .i64 q, .slice ta zs.length tc] 27)) := by go_grown
              have B2 := Blk.new z3 27 #[.int .i64 i, .int .i64 s, .int .i64 q, .slice ta zs.length tc]
              replace hW := hW.trans (hb9.mono hW.size)
              replace hZ := hZ.below hb9
              replace B1 := B1.below hb9
              go_wp2
              refine ThenGo.to ⟨⟨⟨_, hW⟩, rfl⟩, ?_⟩
              generalize z3.alloc (.cells #[.int .i64 i, .int .i64 s, .int .i64 q, .slice ta zs.length tc] 27) = z4 at hb9 hW B2 hZ B1 ⊢
              clear hb9
              generalize z3.heap.size = g2 at B2 ⊢
              refine call_at 13 (some 134) 16 #[.slice (some ⟨g1, 0, none⟩) 1 1, .slice (some ⟨g2, 0, none⟩) 1 1] 2 (by kernel_rfl) (by kernel_rfl) (by kernel_rfl) (by kernel_rfl) (by kernel_rfl) ?_
              refine (implSameTxns_any _ _ [⟨i, s, q, zs⟩] [⟨i, s, q, zs⟩] _ (txn_one B1 hZ) (txn_one B2 (ht.below hW)) (by simp [sumA]; omega) (by simp [sumA]; omega)).mono ?_
              rintro e v5 ⟨hs9, hb9⟩
              replace hW := hW.trans (hb9.mono hW.size)
              replace hZ := hZ.below hb9
              replace B1 := B1.below hb9
              replace B2 := B2.below hb9
              rw [sameT_one] at hs9
              subst hs9
              clear hb9
              refine ⟨_, rfl, ⟨⟨_, hW⟩, rfl⟩, ?_⟩
              simp only [Act.put, List.setIfInBounds_toArray, List.set_cons_zero, List.set_cons_succ]
              refine seg_range [(14, 2)] 0 (by kernel_rfl) (by kernel_rfl) (by kernel_rfl) (by kernel_rfl) (by kernel_rfl) ⟨⟨_, hW⟩, rfl⟩ ?_
              simp only [pickR, List.toList_toArray, List.flatMap_cons, List.flatMap_nil, List.drop_succ_cons, List.drop_zero, List.take_succ_cons, List.take_zero, List.cons_append, List.nil_append, List.append_nil]
              repeat go_big_quiet_step (fail)
              refine wpQuiet_nil ?_
              refine text_end (by kernel_rfl) ?_
              go_wp2
              go_ret
              exact ⟨rfl, hb.trans (hW.mono hb.size)⟩
            · skip
              refine op_g 12 _ rfl (by kernel_rfl) ?_
              have hb9 : Below v2.heap.size v2 (v2.alloc (.cells #[.int .i64 i, .int .i64 s, .int .i64 q, .slice ta zs.length tc] 27)) := by go_grown
              have B2 := Blk.new v2 27 #[.int .i64 i, .int .i64 s, .int .i64 q, .slice ta zs.length tc]
              replace hW := hW.trans (hb9.mono hW.size)
              replace hZ := hZ.below hb9
              go_wp2
              refine ThenGo.to ⟨⟨⟨_, hW⟩, rfl⟩, ?_⟩
              generalize v2.alloc (.cells #[.int .i64 i, .int .i64 s, .int .i64 q, .slice ta zs.length tc] 27) = z6 at hb9 hW B2 hZ ⊢
              clear hb9
              generalize v2.heap.size = g2 at B2 ⊢
              refine one_g 10 _ 3 (by kernel_rfl) rfl (by kernel_rfl) (by kernel_rfl) ?_
              have hb9 : Below z6.heap.size z6 (z6.alloc (.cells #[.int .i64 i, .int .i64 s, .int .i64 q, .slice rb zs.length rc] 27)) := by go_grown
              have B1 := Blk.new z6 27 #[.int .i64 i, .int .i64 s, .int .i64 q, .slice rb zs.length rc]
              replace hW := hW.trans (hb9.mono hW.size)
              replace hZ := hZ.below hb9
              replace B2 := B2.below hb9
              go_wp2
              refine ThenGo.to ⟨⟨⟨_, hW⟩, rfl⟩, ?_⟩
              generalize z6.alloc (.cells #[.int .i64 i, .int .i64 s, .int .i64 q, .slice rb zs.length rc] 27) = z7 at hb9 hW B1 hZ B2 ⊢
              clear hb9
              generalize z6.heap.size = g1 at B1 ⊢
              refine call_at 13 (some 134) 16 #[.slice (some ⟨g1, 0, none⟩) 1 1, .slice (some ⟨g2, 0, none⟩) 1 1] 2 (by kernel_rfl) (by kernel_rfl) (by kernel_rfl) (by kernel_rfl) (by kernel_rfl) ?_
              refine (implSameTxns_any _ _ [⟨i, s, q, zs⟩] [⟨i, s, q, zs⟩] _ (txn_one B1 hZ) (txn_one B2 (ht.below hW)) (by simp [sumA]; omega) (by simp [sumA]; omega)).mono ?_
              rintro e v8 ⟨hs9, hb9⟩
              replace hW := hW.trans (hb9.mono hW.size)
              replace hZ := hZ.below hb9
              replace B2 := B2.below hb9
              replace B1 := B1.below hb9
              rw [sameT_one] at hs9
              subst hs9
              clear hb9
              refine ⟨_, rfl, ⟨⟨_, hW⟩, rfl⟩, ?_⟩
              simp only [Act.put, List.setIfInBounds_toArray, List.set_cons_zero, List.set_cons_succ]
              refine seg_range [(14, 2)] 0 (by kernel_rfl) (by kernel_rfl) (by kernel_rfl) (by kernel_rfl) (by kernel_rfl) ⟨⟨_, hW⟩, rfl⟩ ?_
              simp only [pickR, List.toList_toArray, List.flatMap_cons, List.flatMap_nil, List.drop_succ_cons, List.drop_zero, List.take_succ_cons, List.take_zero, List.cons_append, List.nil_append, List.append_nil]
              repeat go_big_quiet_step (fail)
              refine wpQuiet_nil ?_
              refine text_end (by kernel_rfl) ?_
              go_wp2
              go_ret
              exact ⟨rfl, hb.trans (hW.mono hb.size)⟩
          · skip
            refine op_g 12 _ rfl (by kernel_rfl) ?_
            have hb9 : Below v1.heap.size v1 (v1.alloc (.cells #[.int .i64 i, .int .i64 s, .int .i64 q, .slice ta zs.length tc] 27)) := by go_grown
            have B2 := Blk.new v1 27 #[.int .i64 i, .int .i64 s, .int .i64 q, .slice ta zs.length tc]
            replace hW := hW.trans (hb9.mono hW.size)
            go_wp2
            refine ThenGo.to ⟨⟨⟨_, hW⟩, rfl⟩, ?_⟩
            generalize v1.alloc (.cells #[.int .i64 i, .int .i64 s, .int .i64 q, .slice ta zs.length tc] 27) = z9 at hb9 hW B2  ⊢
            clear hb9
            generalize v1.heap.size = g2 at B2 ⊢
            refine call_at 8 (some 129) 6 #[.slice pa pb.length pc] 5 (by kernel_rfl) (by kernel_rfl) (by kernel_rfl) (by kernel_rfl) (by kernel_rfl) ?_
            refine (hiR2 _ (hG.below hW) (hp.below hW)).mono ?_
            rintro e v10 ⟨rb, rc, rfl, o9, hb9⟩
            replace hW := hW.trans (hb9.mono hW.size)
            replace B2 := B2.below hb9
            have hZ : ActRow v10 rb zs := Lies.own o9
            clear o9
            clear hb9
            refine ⟨_, rfl, ⟨⟨_, hW⟩, rfl⟩, ?_⟩
            simp only [Act.put, List.setIfInBounds_toArray, List.set_cons_zero, List.set_cons_succ]
            refine seg_range [(9, 1)] 4 (by kernel_rfl) (by kernel_rfl) (by kernel_rfl) (by kernel_rfl) (by kernel_rfl) ⟨⟨_, hW⟩, rfl⟩ ?_
            simp only [pickR, List.toList_toArray, List.flatMap_cons, List.flatMap_nil, List.drop_succ_cons, List.drop_zero, List.take_succ_cons, List.take_zero, List.cons_append, List.nil_append, List.append_nil]
            repeat go_big_quiet_step (fail)
            refine wpQuiet_nil ?_
            refine one_g 10 _ 3 (by kernel_rfl) rfl (by kernel_rfl) (by kernel_rfl) ?_
            have hb9 : Below v10.heap.size v10 (v10.alloc (.cells #[.int .i64 i, .int .i64 s, .int .i64 q, .slice rb zs.length rc] 27)) := by go_grown
            have B1 := Blk.new v10 27 #[.int .i64 i, .int .i64 s, .int .i64 q, .slice rb zs.length rc]
            replace hW := hW.trans (hb9.mono hW.size)
            replace B2 := B2.below hb9
            replace hZ := hZ.below hb9
            go_wp2
            refine ThenGo.to ⟨⟨⟨_, hW⟩, rfl⟩, ?_⟩
            generalize v10.alloc (.cells #[.int .i64 i, .int .i64 s, .int .i64 q, .slice rb zs.length rc] 27) = z11 at hb9 hW B1 B2 hZ ⊢
            clear hb9
            generalize v10.heap.size = g1 at B1 ⊢
            refine call_at 13 (some 134) 16 #[.slice (some ⟨g1, 0, none⟩) 1 1, .slice (some ⟨g2, 0, none⟩) 1 1] 2 (by kernel_rfl) (by kernel_rfl) (by kernel_rfl) (by kernel_rfl) (by kernel_rfl) ?_
            refine (implSameTxns_any _ _ [⟨i, s, q, zs⟩] [⟨i, s, q, zs⟩] _ (txn_one B1 hZ) (txn_one B2 (ht.below hW)) (by simp [sumA]; omega) (by simp [sumA]; omega)).mono ?_
            rintro e v12 ⟨hs9, hb9⟩
            replace hW := hW.trans (hb9.mono hW.size)
            replace B2 := B2.below hb9
            replace hZ := hZ.below hb9
            replace B1 := B1.below hb9
            rw [sameT_one] at hs9
            subst hs9
            clear hb9
            refine ⟨_, rfl, ⟨⟨_, hW⟩, rfl⟩, ?_⟩
            simp only [Act.put, List.setIfInBounds_toArray, List.set_cons_zero, List.set_cons_succ]
            refine seg_range [(14, 2)] 0 (by kernel_rfl) (by kernel_rfl) (by kernel_rfl) (by kernel_rfl) (by kernel_rfl) ⟨⟨_, hW⟩, rfl⟩ ?_
            simp only [pickR, List.toList_toArray, List.flatMap_cons, List.flatMap_nil, List.drop_succ_cons, List.drop_zero, List.take_succ_cons, List.take_zero, List.cons_append, List.nil_append, List.append_nil]
            repeat go_big_quiet_step (fail)
            refine wpQuiet_nil ?_
            refine text_end (by kernel_rfl) ?_
            go_wp2
            go_ret
            exact ⟨rfl, hb.trans (hW.mono hb.size)⟩
        · have hpn : (pC != 0) = true := by simpa using hp0
          have hpe : (pC == pC) = true := by simp
          go_wp2_with fail
          clear c0 hpn
          have hW : Below w9.heap.size w9 w9.drew := (Below.refl _ _).drew
          have hnn : Nonempty (Lat w9) := ⟨⟨w9, Below.refl _ _⟩⟩
          have c0 := Bp.lat 0 _ rfl
          have c1 := Bp.lat 1 _ rfl
          have t0 := Bt.lat 0 _ rfl
          have t1 := Bt.lat 1 _ rfl
          have t2 := Bt.lat 2 _ rfl
          have t3 := Bt.lat 3 _ rfl
          refine text_begin (S := fun w' => ∃ u : Lat w9, w' = u.val) (by kernel_rfl) ?_
          have hsd : Hid (True) := trivial
          generalize w9.drew = wd at hW ⊢
          refine seg_range [(0, 1), (3, 2)] 11 (by kernel_rfl) (by kernel_rfl) (by kernel_rfl) (by kernel_rfl) (by kernel_rfl) ⟨⟨_, hW⟩, rfl⟩ ?_
          simp only [pickR, List.toList_toArray, List.flatMap_cons, List.flatMap_nil, List.drop_succ_cons, List.drop_zero, List.take_succ_cons, List.take_zero, List.cons_append, List.nil_append, List.append_nil]
          repeat go_big_quiet_step (fail)
          refine wpQuiet_nil ?_
          refine call_at 1 (some 109) 17 #[.agg #[.int .i64 i, .int .i64 s, .int .i64 q, .slice ta zs.length tc]] 10 (by kernel_rfl) (by kernel_rfl) (by kernel_rfl) (by kernel_rfl) (by kernel_rfl) ?_
          refine (hsP _ (ht.below hW)).mono ?_
          rintro e v1 ⟨rb, rc, rfl, o9, hb9⟩
          replace hW := hW.trans (hb9.mono hW.size)
          clear o9
          clear hb9
          refine ⟨_, rfl, ⟨⟨_, hW⟩, rfl⟩, ?_⟩
          simp only [Act.put, List.setIfInBounds_toArray, List.set_cons_zero, List.set_cons_succ]
          refine seg_range [(2, 1), (5, 3), (9, 2)] 4 (by kernel_rfl) (by kernel_rfl) (by kernel_rfl) (by kernel_rfl) (by kernel_rfl) ⟨⟨_, hW⟩, rfl⟩ ?_
          simp only [pickR, List.toList_toArray, List.flatMap_cons, List.flatMap_nil, List.drop_succ_cons, List.drop_zero, List.take_succ_cons, List.take_zero, List.cons_append, List.nil_append, List.append_nil]
          repeat go_big_quiet_step (fail)
          refine wpQuiet_nil ?_
          refine call_at 8 (some 116) 18 #[.agg #[.int .i64 i, .int .i64 s, .int .i64 q, .slice ta zs.length tc]] 3 (by kernel_rfl) (by kernel_rfl) (by kernel_rfl) (by kernel_rfl) (by kernel_rfl) ?_
          refine (hTF _ (ht.below hW)).mono ?_
          rintro e v2 ⟨rfl, hb9⟩
          replace hW := hW.trans (hb9.mono hW.size)
          clear hb9
          refine ⟨_, rfl, ⟨⟨_, hW⟩, rfl⟩, ?_⟩
          simp only [Act.put, List.setIfInBounds_toArray, List.set_cons_zero, List.set_cons_succ]
          refine seg_range [(11, 3)] 0 (by kernel_rfl) (by kernel_rfl) (by kernel_rfl) (by kernel_rfl) (by kernel_rfl) ⟨⟨_, hW⟩, rfl⟩ ?_
          simp only [pickR, List.toList_toArray, List.flatMap_cons, List.flatMap_nil, List.drop_succ_cons, List.drop_zero, List.take_succ_cons, List.take_zero, List.cons_append, List.nil_append, List.append_nil]
          repeat go_big_quiet_step (fail)
          refine wpQuiet_nil ?_
          refine text_end (by kernel_rfl) ?_
          go_wp2
          go_ret
          exact ⟨rfl, hb.trans (hW.mono hb.size)⟩
  · have hd : decide (1048576 < (bs.length : Int)) = true := decide_eq_true (by omega)
    go_enter Tryd.func3, Tryd.ntmps3
    go_wp2_with fail
    refine (lwBig_any a bs.length cap w hm).mono ?_
    rintro e w1 ⟨rfl, hw⟩
    subst hw
    rw [hd]
    go_wp2
    go_ret
    exact ⟨rfl, Below.refl _ _⟩

end Go.Proofs.YtjaoggkpnjkkpaaDoor

/- Texts joined, with what the law reaches alone. -/
import Derived.Test.YtjjolkihiclopaaGreatDoorSBBL
import Derived.Test.YtjjolkihiclopaaGreatDoorSBBM
import Derived.Test.YtjjolkihiclopaaGreatDoorSBBO
import Derived.Test.YtjjolkihiclopaaGreatDoorSBAF
set_option linter.unusedVariables false
set_option linter.unusedSimpArgs false
namespace Go.Proofs.YtjjolkihiclopaaGreatDoor
open Go.RowKit
open Go.BigFrame
set_option maxRecDepth 100000
theorem field7 (c v:Int) (w:World):(Instr.field 38 (.agg #[.int .i64 c,.int .i64 v]) 1).run Tryz.prog w=.ok (.int .i64 v) w:=by kernel_rfl

theorem pre7 (v v' : Value) (ps qs:List TxnQ) {xs ys:List TxnD} (e1:ps.map TxnQ.e=xs) (e2:qs.map TxnQ.e=ys) (hp:preT xs ys=true) (w:World) (h:txnK.At w v ps) (h' : txnK.Own w v' qs) (hl:ps.length + nmL TxnQ.n ps≤1048576) (hl' : qs.length + nmL TxnQ.n qs≤1048576) :
  Calls Tryz.prog 16 #[v,v'] w fun e w' => e=.returned (.bool true)∧Below w.heap.size w w' := by
 have hq:=implIsPrefix_any v v' ps qs w h h' hl hl'
 rw [e1,e2,hp] at hq
 exact hq

theorem same7 (v v' : Value) (ps qs:List TxnQ) {xs ys:List TxnD} (e1:ps.map TxnQ.e=xs) (e2:qs.map TxnQ.e=ys) (hp:sameTs xs ys=true) (w:World) (h:txnK.At w v ps) (h' : txnK.At w v' qs) (hl:ps.length + nmL TxnQ.n ps≤1048576) (hl' : qs.length + nmL TxnQ.n qs≤1048576) :
  Calls Tryz.prog 21 #[v,v'] w fun e w' => e=.returned (.bool true)∧Below w.heap.size w w' := by
 have hq:=implSameTxns_any v v' (ps.map TxnQ.e) (qs.map TxnQ.e) w (txnsAt_of' h) (txnsAt_of' h') (by rw [List.length_map,sumA_of'];exact hl) (by rw [List.length_map,sumA_of'];exact hl')
 rw [e1,e2,hp] at hq
 exact hq

theorem ord7 (v v' : Value) (ps qs:List InstQ) (he:ps.map InstQ.e=qs.map InstQ.e) (w:World) (h:instK.At w v ps) (h' : instK.At w v' qs) (hl:ps.length + nmL InstQ.n ps≤1048576) (hl' : qs.length + nmL InstQ.n qs≤1048576) :
  Calls Tryz.prog 25 #[v,v'] w fun e w' => e=.returned (.bool true)∧Below w.heap.size w w' := by
 have hq:=implSameOrders_any v v' ps qs w h h' hl hl'
 rw [he,sameIs_refl7] at hq
 exact hq

set_option maxRecDepth 100000 in
set_option maxHeartbeats 16000000 in
theorem changesFn (a:Option Addr) (cap:Nat) (zs:List Int) (w:World) (hG:Rul w) (h:Row .u8 w a zs) (hu:∀ i,0≤zs.getD i 0∧zs.getD i 0≤255) (hm:zs.length≤9223372036854775807) :
  Calls Tryz.prog 4 #[.slice a zs.length cap] w fun e w' => e=.returned (.bool true)∧Below w.heap.size w w' := by
 by_cases hle:zs.length≤1048576
 case neg=>
  have hd:decide (1048576 < (zs.length:Int))=true:=decide_eq_true (by omega)
  go_enter Tryz.func4,Tryz.ntmps4
  go_wp2_with fail
  refine (lwBig_any a zs.length cap w hm).mono ?_
  rintro e w1 ⟨rfl,hw⟩
  subst hw
  rw [hd]
  go_wp2
  go_ret
  exact ⟨rfl,Below.refl _ _⟩
 have b0:Below w.heap.size w w:=Below.refl _ _
 have hd:decide (1048576 < (zs.length:Int))=false:=decide_eq_false (by omega)
 go_enter Tryz.func4,Tryz.ntmps4
 go_wp2_with fail
 refine (lwBig_any a zs.length cap w hm).mono ?_
 rintro e w1 ⟨rfl,hw⟩
 replace hw:=hw.symm
 subst hw
 rw [hd]
 go_wp2_with fail
 refine (drawChangeLast_any a cap zs w h hu hle).mono ?_
 rintro e w2 ⟨v,ps,q,rfl,h5,hpn,hqn,hO,oq,hb⟩
 replace b0:=hb
 replace hG:=hG.below hb
 clear hb
 have hlp:ps.length + nmL InstQ.n ps≤1048576:=by have:=nmL_bound InstQ.n 1000 ps hpn;omega
 have hlq0:InstQ.n q≤1048576:=by omega
 obtain ⟨va,vc,rfl⟩:=hO.shape
 obtain ⟨ch,cb,cbs,cr,crs,cd,cds⟩:=q
 obtain ⟨c1,c4,rfl⟩:∃ a c,cb=.slice a cbs.length c:=oq.1.shape
 obtain ⟨c2,c5,rfl⟩:∃ a c,cr=.slice a crs.length c:=oq.2.1.shape
 obtain ⟨c3,c6,rfl⟩:∃ a c,cd=.slice a cds.length c:=oq.2.2.shape
 have hb:Below w2.heap.size w2 (w2.alloc (.cells #[.bool ch,.slice c1 cbs.length c4,.slice c2 crs.length c5,.slice c3 cds.length c6] 49)):=by go_grown
 have X0:=Blk.new w2 49 #[.bool ch,.slice c1 cbs.length c4,.slice c2 crs.length c5,.slice c3 cds.length c6]
 replace b0:=b0.trans (hb.mono b0.size)
 replace hG:=hG.below hb
 replace hO:=hO.below hb
 replace oq:=instK.own_out (F:=[]) oq (Out.of_below hb) (fun _ _=>by simp)
 clear hb h5 hpn hqn h hu hm hle hd
 have k0:=X0.cell 0 _ rfl
 have k1:=X0.cell 1 _ rfl
 have k2:=X0.cell 2 _ rfl
 have k3:=X0.cell 3 _ rfl
 go_wp2_with fail
 clear k0 k1 k2 k3
 generalize w2.heap.size=gx at *
 generalize (w2.alloc (.cells #[.bool ch,.slice c1 cbs.length c4,.slice c2 crs.length c5,.slice c3 cds.length c6] 49))=W2 at *
 have hA0:=hO.at
 have cP:=hO.capOk
 have hrd0:=instK.own_rd oq
 refine (implChangeLast_any _ ps (⟨ch,.slice c1 cbs.length c4,cbs,.slice c2 crs.length c5,crs,.slice c3 cds.length c6,cds⟩:InstQ) W2 hG hO hrd0 hlp hlq0).mono ?_
 rintro e w3 ⟨v',qs,rfl,eqs,oqs,nqs,gqs,hb⟩
 have HQ0:Hid (qs.map InstQ.e=clO (ps.map InstQ.e) (InstQ.e (⟨ch,.slice c1 cbs.length c4,cbs,.slice c2 crs.length c5,crs,.slice c3 cds.length c6,cds⟩:InstQ))):=eqs
 have hlq:qs.length + nmL InstQ.n qs≤1048576:=clO_n eqs
 have HSQ0:Hid (∀ q5:List InstQ,q5.map InstQ.e=clO (ps.map InstQ.e) (InstQ.e (⟨ch,.slice c1 cbs.length c4,cbs,.slice c2 crs.length c5,crs,.slice c3 cds.length c6,cds⟩:InstQ))→q5.length + nmL InstQ.n q5≤1048576):=fun q5 h5=>clO_n h5
 have HCH:Hid (clC (ps.map InstQ.e) (InstQ.e (⟨ch,.slice c1 cbs.length c4,cbs,.slice c2 crs.length c5,crs,.slice c3 cds.length c6,cds⟩:InstQ))=0→_):=fun hc=>ch_all hc
 have hsp:=fun w h h' => specChangeLast_any (.slice va ps.length vc) ps (⟨ch,.slice c1 cbs.length c4,cbs,.slice c2 crs.length c5,crs,.slice c3 cds.length c6,cds⟩:InstQ) w h h' hlp hlq0
 generalize clO (ps.map InstQ.e) (InstQ.e (⟨ch,.slice c1 cbs.length c4,cbs,.slice c2 crs.length c5,crs,.slice c3 cds.length c6,cds⟩:InstQ))=OO at *
 generalize clC (ps.map InstQ.e) (InstQ.e (⟨ch,.slice c1 cbs.length c4,cbs,.slice c2 crs.length c5,crs,.slice c3 cds.length c6,cds⟩:InstQ))=CC at *
 dsimp only at hsp
 subst eqs
 obtain ⟨qa,qc,rfl⟩:=oqs.shape
 have cQ:=oqs.capOk
 have hAq:=oqs.at
 have hAp:=hA0.below hb
 have hr3:=instK.rd_below hrd0 hb
 replace X0:=X0.below hb
 replace b0:=b0.trans (hb.mono b0.size)
 replace hG:=hG.below hb
 clear hb oqs nqs gqs oq hO hA0 hrd0
 have hb:Below w3.heap.size w3 (w3.alloc (.cells #[.int .i64 CC,.slice qa qs.length qc] 33)):=by go_grown
 have P0:=Blk.new w3 33 #[.int .i64 CC,.slice qa qs.length qc]
 replace hAq:=hAq.below hb
 replace hAp:=hAp.below hb
 replace hr3:=instK.rd_below hr3 hb
 replace X0:=X0.below hb
 replace b0:=b0.trans (hb.mono b0.size)
 replace hG:=hG.below hb
 clear hb
 have z0:=P0.cell 0 _ rfl
 by_cases hC:CC=0
 ·obtain ⟨hc0,hc1,hc2,hc3,hc4⟩:=HCH.out hC
  subst hC
  clear HCH
  have hdi:=fun w hG h=>implDecidedIn_any (.slice va ps.length vc) ps w hG h hlp
  have hdj:=fun w hG h=>implDecidedIn_any (.slice qa qs.length qc) qs w hG h hlq
  have hof:=fun w hG h=>implOrderFault_any (.slice qa qs.length qc) qs w hG h hlq
  rw [hc0] at hdi
  rw [hc1] at hdj hof
  clear hc0 hc1
  generalize diV (ps.map InstQ.e)=WAS at *
  generalize diV (qs.map InstQ.e)=NOW at *
  have hdp:=fun w hG h=>implDefiniteOf_any (.slice va ps.length vc) ps WAS w hG h cP hlp
  have hdn:=fun w hG h=>implDefiniteOf_any (.slice qa qs.length qc) qs NOW w hG h cQ hlq
  have hdw:=fun w hG h=>implDefiniteOf_any (.slice qa qs.length qc) qs WAS w hG h cQ hlq
  have HS1:Hid (∀ t1:List TxnQ,t1.map TxnQ.e=dfT (ps.map InstQ.e) WAS→t1.length + nmL TxnQ.n t1≤1048576):=fun t1 e1=>dfT_n e1 hlp
  have HS2:Hid (∀ t1:List TxnQ,t1.map TxnQ.e=dfT (qs.map InstQ.e) NOW→t1.length + nmL TxnQ.n t1≤1048576):=fun t1 e1=>dfT_n e1 hlq
  have HS3:Hid (∀ t1:List TxnQ,t1.map TxnQ.e=dfT (qs.map InstQ.e) WAS→t1.length + nmL TxnQ.n t1≤1048576):=fun t1 e1=>dfT_n e1 hlq
  have HPR:Hid (preT (dfT (ps.map InstQ.e) WAS) (dfT (qs.map InstQ.e) NOW)=true):=hc3
  have HSM:Hid (sameTs (dfT (ps.map InstQ.e) WAS) (dfT (qs.map InstQ.e) WAS)=true):=hc4
  have HQE:Hid (qs.map InstQ.e=qs.map InstQ.e):=show _=_ from rfl
  have HSQ:Hid (∀ q5:List InstQ,q5.map InstQ.e=qs.map InstQ.e→q5.length + nmL InstQ.n q5≤1048576):=HSQ0.out
  clear hc3 hc4 HQ0 HSQ0
  generalize dfT (ps.map InstQ.e) WAS=DA at *
  generalize dfT (qs.map InstQ.e) NOW=DB at *
  generalize dfT (qs.map InstQ.e) WAS=DC at *
  generalize dfC (ps.map InstQ.e) WAS=KA at *
  generalize dfC (qs.map InstQ.e) NOW=KB at *
  generalize dfC (qs.map InstQ.e) WAS=KC at *
  go_wp2_with fail
  generalize w3.heap.size=gp at *
  generalize w3.alloc (.cells #[.int .i64 0,.slice qa qs.length qc] 33)=W4 at *
  clear z0
  refine (hdi W4 hG hAp).mono ?_
  rintro e w5 ⟨rfl,hb⟩
  replace hAq:=hAq.below hb
  replace hAp:=hAp.below hb
  replace hr3:=instK.rd_below hr3 hb
  replace X0:=X0.below hb
  replace P0:=P0.below hb
  replace b0:=b0.trans (hb.mono b0.size)
  replace hG:=hG.below hb
  clear hb
  have z1:=P0.cell 1 _ rfl
  have hf7:=field7 0 WAS w5
  go_wp2_with fail
  clear z1 hf7
  refine (hdj w5 hG hAq).mono ?_
  rintro e X ⟨rfl,hb⟩
  replace hAq:=hAq.below hb
  replace hAp:=hAp.below hb
  replace hr3:=instK.rd_below hr3 hb
  replace X0:=X0.below hb
  replace P0:=P0.below hb
  replace b0:=b0.trans (hb.mono b0.size)
  replace hG:=hG.below hb
  clear hb hdi hdj
  have hf7:=field7 0 NOW X
  go_wp2_with fail
  clear hf7
  have x0:=X0.lat 0 _ rfl
  have x1:=X0.lat 1 _ rfl
  have x2:=X0.lat 2 _ rfl
  have x3:=X0.lat 3 _ rfl
  have y0:=P0.lat 0 _ rfl
  have y1:=P0.lat 1 _ rfl
  have hrd:∀ w',Below X.heap.size X w' → instK.rd w' (⟨ch,.slice c1 cbs.length c4,cbs,.slice c2 crs.length c5,crs,.slice c3 cds.length c6,cds⟩:InstQ):=fun w' hb=>instK.rd_below hr3 hb
  have hW:Below X.heap.size X X.drew:=(Below.refl _ _).drew
  have hnn:Nonempty (Lat X):=⟨⟨X,Below.refl _ _⟩⟩
  refine text_begin (S:=fun w' => ∃ u:Lat X,w' = u.val) (by kernel_rfl) ?_
  refine seg_range [(0,2)] 41 (by kernel_rfl) (by kernel_rfl) (by kernel_rfl) (by kernel_rfl) (by kernel_rfl) ⟨⟨_,hW⟩,rfl⟩ ?_
  simp only [pickR,List.toList_toArray,List.flatMap_cons,List.flatMap_nil,List.drop_succ_cons,List.drop_zero,List.take_succ_cons,List.take_zero,List.cons_append,List.nil_append,List.append_nil]
  repeat go_big_quiet_step (fail)
  refine wpQuiet_nil ?_
  refine call_at 2 (some 37) 15 #[.slice qa qs.length qc] 40 (by kernel_rfl) (by kernel_rfl) (by kernel_rfl) (by kernel_rfl) (by kernel_rfl) ?_
  refine (hof _ (hG.below hW) (hAq.below hW)).mono ?_
  rintro e w9 ⟨rfl,hb9⟩
  replace hW:=hW.trans (hb9.mono hW.size)
  clear hb9
  refine ⟨_,rfl,⟨⟨_,hW⟩,rfl⟩,?_⟩
  simp only [Act.put,List.setIfInBounds_toArray,List.set_cons_zero,List.set_cons_succ]
  refine seg_range [(3,9),(14,3)] 28 (by kernel_rfl) (by kernel_rfl) (by kernel_rfl) (by kernel_rfl) (by kernel_rfl) ⟨⟨_,hW⟩,rfl⟩ ?_
  simp only [pickR,List.toList_toArray,List.flatMap_cons,List.flatMap_nil,List.drop_succ_cons,List.drop_zero,List.take_succ_cons,List.take_zero,List.cons_append,List.nil_append,List.append_nil]
  repeat go_big_quiet_step (fail)
  refine wpQuiet_nil ?_
  refine call_at 12 (some 47) 7 #[.slice va ps.length vc,.int .i64 WAS] 27 (by kernel_rfl) (by kernel_rfl) (by kernel_rfl) (by kernel_rfl) (by kernel_rfl) ?_
  refine (hdp _ (hG.below hW) (hAp.below hW)).mono ?_
  rintro e w9 ⟨v1,t1,rfl,e1,o1,n1,g1,hb9⟩
  replace hW:=hW.trans (hb9.mono hW.size)
  clear n1 g1
  obtain ⟨ad1,k1,rfl⟩:=o1.shape
  clear hb9
  refine ⟨_,rfl,⟨⟨_,hW⟩,rfl⟩,?_⟩
  simp only [Act.put,List.setIfInBounds_toArray,List.set_cons_zero,List.set_cons_succ]
  refine quiet_at 13 (some 48) (.slice ad1 t1.length k1) 26 (by kernel_rfl) (by kernel_rfl) (by kernel_rfl) (by kernel_rfl) (by kernel_rfl) (fun u _=>by kernel_rfl) ⟨⟨_,hW⟩,rfl⟩ ?_
  simp only [Act.put,List.setIfInBounds_toArray,List.set_cons_zero,List.set_cons_succ]
  refine call_at 17 (some 52) 7 #[.slice qa qs.length qc,.int .i64 NOW] 25 (by kernel_rfl) (by kernel_rfl) (by kernel_rfl) (by kernel_rfl) (by kernel_rfl) ?_
  refine (hdn _ (hG.below hW) (hAq.below hW)).mono ?_
  rintro e w9 ⟨v2,t2,rfl,e2,o2,n2,g2,hb9⟩
  replace hW:=hW.trans (hb9.mono hW.size)
  replace o1:=o1.below hb9
  clear n2 g2
  obtain ⟨ad2,k2,rfl⟩:=o2.shape
  clear hb9
  refine ⟨_,rfl,⟨⟨_,hW⟩,rfl⟩,?_⟩
  simp only [Act.put,List.setIfInBounds_toArray,List.set_cons_zero,List.set_cons_succ]
  refine quiet_at 18 (some 53) (.slice ad2 t2.length k2) 24 (by kernel_rfl) (by kernel_rfl) (by kernel_rfl) (by kernel_rfl) (by kernel_rfl) (fun u _=>by kernel_rfl) ⟨⟨_,hW⟩,rfl⟩ ?_
  simp only [Act.put,List.setIfInBounds_toArray,List.set_cons_zero,List.set_cons_succ]
  refine call_at 19 (some 54) 16 #[.slice ad1 t1.length k1,.slice ad2 t2.length k2] 23 (by kernel_rfl) (by kernel_rfl) (by kernel_rfl) (by kernel_rfl) (by kernel_rfl) ?_
  refine (pre7 _ _ t1 t2 e1 e2 HPR.out _ o1.at o2 (HS1.out t1 e1) (HS2.out t2 e2)).mono ?_
  rintro e w9 ⟨rfl,hb9⟩
  replace hW:=hW.trans (hb9.mono hW.size)
  clear o1 o2 e1 e2
  clear hb9
  refine ⟨_,rfl,⟨⟨_,hW⟩,rfl⟩,?_⟩
  simp only [Act.put,List.setIfInBounds_toArray,List.set_cons_zero,List.set_cons_succ]
  refine seg_range [(20,4),(26,3)] 16 (by kernel_rfl) (by kernel_rfl) (by kernel_rfl) (by kernel_rfl) (by kernel_rfl) ⟨⟨_,hW⟩,rfl⟩ ?_
  simp only [pickR,List.toList_toArray,List.flatMap_cons,List.flatMap_nil,List.drop_succ_cons,List.drop_zero,List.take_succ_cons,List.take_zero,List.cons_append,List.nil_append,List.append_nil]
  repeat go_big_quiet_step (fail)
  refine wpQuiet_nil ?_
  refine call_at 24 (some 59) 7 #[.slice va ps.length vc,.int .i64 WAS] 15 (by kernel_rfl) (by kernel_rfl) (by kernel_rfl) (by kernel_rfl) (by kernel_rfl) ?_
  refine (hdp _ (hG.below hW) (hAp.below hW)).mono ?_
  rintro e w9 ⟨v3,t3,rfl,e3,o3,n3,g3,hb9⟩
  replace hW:=hW.trans (hb9.mono hW.size)
  clear n3 g3
  obtain ⟨ad3,k3,rfl⟩:=o3.shape
  clear hb9
  refine ⟨_,rfl,⟨⟨_,hW⟩,rfl⟩,?_⟩
  simp only [Act.put,List.setIfInBounds_toArray,List.set_cons_zero,List.set_cons_succ]
  refine quiet_at 25 (some 60) (.slice ad3 t3.length k3) 14 (by kernel_rfl) (by kernel_rfl) (by kernel_rfl) (by kernel_rfl) (by kernel_rfl) (fun u _=>by kernel_rfl) ⟨⟨_,hW⟩,rfl⟩ ?_
  simp only [Act.put,List.setIfInBounds_toArray,List.set_cons_zero,List.set_cons_succ]
  refine call_at 29 (some 64) 7 #[.slice qa qs.length qc,.int .i64 WAS] 13 (by kernel_rfl) (by kernel_rfl) (by kernel_rfl) (by kernel_rfl) (by kernel_rfl) ?_
  refine (hdw _ (hG.below hW) (hAq.below hW)).mono ?_
  rintro e w9 ⟨v4,t4,rfl,e4,o4,n4,g4,hb9⟩
  replace hW:=hW.trans (hb9.mono hW.size)
  replace o3:=o3.below hb9
  clear n4 g4
  obtain ⟨ad4,k4,rfl⟩:=o4.shape
  clear hb9
  refine ⟨_,rfl,⟨⟨_,hW⟩,rfl⟩,?_⟩
  simp only [Act.put,List.setIfInBounds_toArray,List.set_cons_zero,List.set_cons_succ]
  refine quiet_at 30 (some 65) (.slice ad4 t4.length k4) 12 (by kernel_rfl) (by kernel_rfl) (by kernel_rfl) (by kernel_rfl) (by kernel_rfl) (fun u _=>by kernel_rfl) ⟨⟨_,hW⟩,rfl⟩ ?_
  simp only [Act.put,List.setIfInBounds_toArray,List.set_cons_zero,List.set_cons_succ]
  refine call_at 31 (some 66) 21 #[.slice ad3 t3.length k3,.slice ad4 t4.length k4] 11 (by kernel_rfl) (by kernel_rfl) (by kernel_rfl) (by kernel_rfl) (by kernel_rfl) ?_
  refine (same7 _ _ t3 t4 e3 e4 HSM.out _ o3.at o4.at (HS1.out t3 e3) (HS3.out t4 e4)).mono ?_
  rintro e w9 ⟨rfl,hb9⟩
  replace hW:=hW.trans (hb9.mono hW.size)
  clear o3 o4 e3 e4
  clear hb9
  refine ⟨_,rfl,⟨⟨_,hW⟩,rfl⟩,?_⟩
  simp only [Act.put,List.setIfInBounds_toArray,List.set_cons_zero,List.set_cons_succ]
  refine seg_range [(32,6)] 5 (by kernel_rfl) (by kernel_rfl) (by kernel_rfl) (by kernel_rfl) (by kernel_rfl) ⟨⟨_,hW⟩,rfl⟩ ?_
  simp only [pickR,List.toList_toArray,List.flatMap_cons,List.flatMap_nil,List.drop_succ_cons,List.drop_zero,List.take_succ_cons,List.take_zero,List.cons_append,List.nil_append,List.append_nil]
  repeat go_big_quiet_step (fail)
  refine wpQuiet_nil ?_
  refine call_at 38 (some 73) 24 #[.slice va ps.length vc,.agg #[.bool ch,.slice c1 cbs.length c4,.slice c2 crs.length c5,.slice c3 cds.length c6]] 4 (by kernel_rfl) (by kernel_rfl) (by kernel_rfl) (by kernel_rfl) (by kernel_rfl) ?_
  refine (hsp _ (hAp.below hW) (hrd _ hW)).mono ?_
  rintro e w9 ⟨v5,q5,rfl,e5,o5,n5,g5,hb9⟩
  replace hW:=hW.trans (hb9.mono hW.size)
  clear n5 g5
  obtain ⟨a5,k5,rfl⟩:=o5.shape
  clear hb9
  refine ⟨_,rfl,⟨⟨_,hW⟩,rfl⟩,?_⟩
  simp only [Act.put,List.setIfInBounds_toArray,List.set_cons_zero,List.set_cons_succ]
  refine quiet_at 39 (some 74) (.slice a5 q5.length k5) 3 (by kernel_rfl) (by kernel_rfl) (by kernel_rfl) (by kernel_rfl) (by kernel_rfl) (fun u _=>by kernel_rfl) ⟨⟨_,hW⟩,rfl⟩ ?_
  simp only [Act.put,List.setIfInBounds_toArray,List.set_cons_zero,List.set_cons_succ]
  refine call_at 40 (some 75) 25 #[.slice qa qs.length qc,.slice a5 q5.length k5] 2 (by kernel_rfl) (by kernel_rfl) (by kernel_rfl) (by kernel_rfl) (by kernel_rfl) ?_
  refine (ord7 _ _ qs q5 e5.symm _ (hAq.below hW) o5.at hlq (HSQ.out q5 e5)).mono ?_
  rintro e w9 ⟨rfl,hb9⟩
  replace hW:=hW.trans (hb9.mono hW.size)
  clear o5 e5
  clear hb9
  refine ⟨_,rfl,⟨⟨_,hW⟩,rfl⟩,?_⟩
  simp only [Act.put,List.setIfInBounds_toArray,List.set_cons_zero,List.set_cons_succ]
  refine seg_range [(41,2)] 0 (by kernel_rfl) (by kernel_rfl) (by kernel_rfl) (by kernel_rfl) (by kernel_rfl) ⟨⟨_,hW⟩,rfl⟩ ?_
  simp only [pickR,List.toList_toArray,List.flatMap_cons,List.flatMap_nil,List.drop_succ_cons,List.drop_zero,List.take_succ_cons,List.take_zero,List.cons_append,List.nil_append,List.append_nil]
  repeat go_big_quiet_step (fail)
  refine wpQuiet_nil ?_
  refine text_end (by kernel_rfl) ?_
  replace b0:=b0.trans (hW.mono b0.size)
  go_wp2
  go_ret
  exact ⟨rfl,b0⟩
 ·have hC' : (CC != 0)=true:=by simpa using hC
  have e1:(CC == CC)=true:=by simp
  clear HCH hC
  go_wp2_with fail
  clear z0
  generalize w3.heap.size=gp at *
  generalize w3.alloc (.cells #[.int .i64 CC,.slice qa qs.length qc] 33)=X at *
  have x0:=X0.lat 0 _ rfl
  have x1:=X0.lat 1 _ rfl
  have x2:=X0.lat 2 _ rfl
  have x3:=X0.lat 3 _ rfl
  have y0:=P0.lat 0 _ rfl
  have hrd:∀ w',Below X.heap.size X w' → instK.rd w' (⟨ch,.slice c1 cbs.length c4,cbs,.slice c2 crs.length c5,crs,.slice c3 cds.length c6,cds⟩:InstQ):=fun w' hb=>instK.rd_below hr3 hb
  have hW:Below X.heap.size X X.drew:=(Below.refl _ _).drew
  have hnn:Nonempty (Lat X):=⟨⟨X,Below.refl _ _⟩⟩
  refine text_begin (S:=fun w' => ∃ u:Lat X,w' = u.val) (by kernel_rfl) ?_
  refine seg_range [(0,2),(4,2)] 4 (by kernel_rfl) (by kernel_rfl) (by kernel_rfl) (by kernel_rfl) (by kernel_rfl) ⟨⟨_,hW⟩,rfl⟩ ?_
  simp only [pickR,List.toList_toArray,List.flatMap_cons,List.flatMap_nil,List.drop_succ_cons,List.drop_zero,List.take_succ_cons,List.take_zero,List.cons_append,List.nil_append,List.append_nil]
  repeat go_big_quiet_step (fail)
  refine wpQuiet_nil ?_
  refine call_at 2 (some 23) 24 #[.slice va ps.length vc,.agg #[.bool ch,.slice c1 cbs.length c4,.slice c2 crs.length c5,.slice c3 cds.length c6]] 3 (by kernel_rfl) (by kernel_rfl) (by kernel_rfl) (by kernel_rfl) (by kernel_rfl) ?_
  refine (hsp _ (hAp.below hW) (hrd _ hW)).mono ?_
  rintro e w9 ⟨v5,q5,rfl,e5,o5,n5,g5,hb9⟩
  replace hW:=hW.trans (hb9.mono hW.size)
  clear n5 g5
  obtain ⟨a5,k5,rfl⟩:=o5.shape
  clear hb9
  refine ⟨_,rfl,⟨⟨_,hW⟩,rfl⟩,?_⟩
  simp only [Act.put,List.setIfInBounds_toArray,List.set_cons_zero,List.set_cons_succ]
  refine quiet_at 3 (some 24) (.int .i64 CC) 2 (by kernel_rfl) (by kernel_rfl) (by kernel_rfl) (by kernel_rfl) (by kernel_rfl) (fun u _=>by kernel_rfl) ⟨⟨_,hW⟩,rfl⟩ ?_
  simp only [Act.put,List.setIfInBounds_toArray,List.set_cons_zero,List.set_cons_succ]
  refine seg_range [(6,2)] 0 (by kernel_rfl) (by kernel_rfl) (by kernel_rfl) (by kernel_rfl) (by kernel_rfl) ⟨⟨_,hW⟩,rfl⟩ ?_
  simp only [pickR,List.toList_toArray,List.flatMap_cons,List.flatMap_nil,List.drop_succ_cons,List.drop_zero,List.take_succ_cons,List.take_zero,List.cons_append,List.nil_append,List.append_nil]
  repeat go_big_quiet_step (fail)
  refine wpQuiet_nil ?_
  refine text_end (by kernel_rfl) ?_
  replace b0:=b0.trans (hW.mono b0.size)
  go_wp2
  go_ret
  exact ⟨rfl,b0⟩

end Go.Proofs.YtjjolkihiclopaaGreatDoor

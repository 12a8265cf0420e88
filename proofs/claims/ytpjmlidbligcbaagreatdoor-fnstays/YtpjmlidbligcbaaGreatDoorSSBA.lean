/- Texts joined, with what the laws reach alone. -/
import Derived.Test.YtpjmlidbligcbaaGreatDoorSSAZ
import Derived.Test.YtpjmlidbligcbaaGreatDoorSSAY
set_option linter.unusedVariables false
set_option linter.unusedSimpArgs false
namespace Go.Proofs.YtpjmlidbligcbaaGreatDoor
open Go.RowKit
open Go.BigFrame
set_option maxRecDepth 100000
theorem oc_zero {x:InstE} (h:ocC x=0):insF x=0∧outV x.dec≠3∧ocV x=outV x.dec:=by
 unfold ocC at h
 by_cases h0:insF x=0
 ·rw [if_pos h0] at h
  by_cases h3:outV x.dec=3
  ·rw [if_pos h3] at h
   exact absurd h (by decide)
  ·refine ⟨h0,h3,?_⟩
   unfold ocV
   rw [if_pos h0,if_neg h3]
 ·rw [if_neg h0] at h
  exact absurd h h0

theorem oc_mk {x:InstE} (h0:insF x=0) (h3:outV x.dec≠3):ocC x=0∧ocV x=outV x.dec:=by
 unfold ocC ocV
 rw [if_pos h0,if_pos h0,if_neg h3,if_neg h3]
 exact ⟨rfl,rfl⟩

theorem stays_go {x:InstE} {n r m c:Int} (h:ocC x=0) (hg:goC x n r m c=0):ocC (goI x n r m c)=0∧ocV (goI x n r m c)=ocV x∧(goD x n r m c=true→goV x n r m c=ocV x):=by
 obtain ⟨h0,h3,hv⟩:=oc_zero h
 obtain ⟨hi,k,v,hk,hv01,eV,hag,hdec⟩:=ins_go hg
 cases hD:goD x n r m c with
 | true=>
  rw [hD] at hdec
  have hdec' : (goI x n r m c).dec=x.dec.set k v:=hdec
  obtain ⟨e1,e2⟩:=stays (n:=k) (rgt_of h0) h3 hv01 (hag hD)
  have e3:outV (goI x n r m c).dec=outV x.dec:=by rw [hdec'];exact e2
  obtain ⟨k1,k2⟩:=oc_mk hi (by rw [e3];exact h3)
  exact ⟨k1,by rw [k2,e3,hv],fun _=>by rw [eV,hv];exact e1⟩
 | false=>
  rw [hD] at hdec
  have hdec' : (goI x n r m c).dec=x.dec:=hdec
  obtain ⟨k1,k2⟩:=oc_mk hi (by rw [hdec'];exact h3)
  exact ⟨k1,by rw [k2,hdec',hv],fun e=>absurd e (by decide)⟩

theorem stays_pr {x:InstE} {n r m:Int} (h:ocC x=0) (hg:prC x n r m=0):ocV (prI x n r m)=ocV x:=by
 obtain ⟨h0,h3,hv⟩:=oc_zero h
 obtain ⟨hi,hdec⟩:=ins_propose hg
 rw [(oc_mk hi (by rw [hdec];exact h3)).2,hdec,hv]

set_option maxRecDepth 100000 in
set_option maxHeartbeats 16000000 in
theorem staysFn (a:Option Addr) (cap:Nat) (zs:List Int) (w:World) (hG:RulO w) (h:Row .u8 w a zs) (hu:∀ i,0≤zs.getD i 0∧zs.getD i 0≤255) (hm:zs.length≤9223372036854775807) :
  Calls Tryz.prog 4 #[.slice a zs.length cap] w fun e w' => e=.returned (.bool true)∧Below w.heap.size w w' := by
 by_cases hle:zs.length≤1048576
 ·have hd:decide (1048576 < (zs.length:Int))=false:=decide_eq_false (by omega)
  go_enter Tryz.func4,Tryz.ntmps4
  go_wp2_with fail
  refine (lwBig_any a zs.length cap w hm).mono ?_
  rintro e w1 ⟨rfl,hw⟩
  replace hw:=hw.symm
  subst hw
  rw [hd]
  clear hd
  go_wp2_with fail
  refine (drawGoOn_any a cap zs _ h hu hle).mono ?_
  rintro e w2 ⟨q,n1,r1,m1,cn,rfl,hn,oq,_,hb⟩
  clear h hu
  obtain ⟨ch,cb,cbs,cr,crs,cd,cds⟩:=q
  obtain ⟨c1,c4,rfl⟩:∃ a c,cb=.slice a cbs.length c:=oq.1.shape
  obtain ⟨c2,c5,rfl⟩:∃ a c,cr=.slice a crs.length c:=oq.2.1.shape
  obtain ⟨c3,c6,rfl⟩:∃ a c,cd=.slice a cds.length c:=oq.2.2.shape
  have hl:InstQ.n (⟨ch,.slice c1 cbs.length c4,cbs,.slice c2 crs.length c5,crs,.slice c3 cds.length c6,cds⟩:InstQ)≤1048576:=by omega
  have hio:=fun w hG h=>implOutcome_any (⟨ch,.slice c1 cbs.length c4,cbs,.slice c2 crs.length c5,crs,.slice c3 cds.length c6,cds⟩:InstQ) w hG h hl
  have hso:=fun w h=>specOutcome_any (⟨ch,.slice c1 cbs.length c4,cbs,.slice c2 crs.length c5,crs,.slice c3 cds.length c6,cds⟩:InstQ) w h hl
  have hig:=fun w hG h=>implGoOn_any (⟨ch,.slice c1 cbs.length c4,cbs,.slice c2 crs.length c5,crs,.slice c3 cds.length c6,cds⟩:InstQ) n1 r1 m1 cn w hG h hl
  have hsg:=fun w h=>specGoOn_any (⟨ch,.slice c1 cbs.length c4,cbs,.slice c2 crs.length c5,crs,.slice c3 cds.length c6,cds⟩:InstQ) n1 r1 m1 cn w h hl
  have hip:=fun w hG h=>implPropose_any (⟨ch,.slice c1 cbs.length c4,cbs,.slice c2 crs.length c5,crs,.slice c3 cds.length c6,cds⟩:InstQ) n1 r1 m1 w hG h hl
  have hsp:=fun w h=>specPropose_any (⟨ch,.slice c1 cbs.length c4,cbs,.slice c2 crs.length c5,crs,.slice c3 cds.length c6,cds⟩:InstQ) n1 r1 m1 w h hl
  have HST:Hid ((ocC (InstQ.e (⟨ch,.slice c1 cbs.length c4,cbs,.slice c2 crs.length c5,crs,.slice c3 cds.length c6,cds⟩:InstQ))=0→goC (InstQ.e (⟨ch,.slice c1 cbs.length c4,cbs,.slice c2 crs.length c5,crs,.slice c3 cds.length c6,cds⟩:InstQ)) n1 r1 m1 cn=0→ocC (goI (InstQ.e (⟨ch,.slice c1 cbs.length c4,cbs,.slice c2 crs.length c5,crs,.slice c3 cds.length c6,cds⟩:InstQ)) n1 r1 m1 cn)=0∧ocV (goI (InstQ.e (⟨ch,.slice c1 cbs.length c4,cbs,.slice c2 crs.length c5,crs,.slice c3 cds.length c6,cds⟩:InstQ)) n1 r1 m1 cn)=ocV (InstQ.e (⟨ch,.slice c1 cbs.length c4,cbs,.slice c2 crs.length c5,crs,.slice c3 cds.length c6,cds⟩:InstQ))∧(goD (InstQ.e (⟨ch,.slice c1 cbs.length c4,cbs,.slice c2 crs.length c5,crs,.slice c3 cds.length c6,cds⟩:InstQ)) n1 r1 m1 cn=true→goV (InstQ.e (⟨ch,.slice c1 cbs.length c4,cbs,.slice c2 crs.length c5,crs,.slice c3 cds.length c6,cds⟩:InstQ)) n1 r1 m1 cn=ocV (InstQ.e (⟨ch,.slice c1 cbs.length c4,cbs,.slice c2 crs.length c5,crs,.slice c3 cds.length c6,cds⟩:InstQ))))∧(ocC (InstQ.e (⟨ch,.slice c1 cbs.length c4,cbs,.slice c2 crs.length c5,crs,.slice c3 cds.length c6,cds⟩:InstQ))=0→prC (InstQ.e (⟨ch,.slice c1 cbs.length c4,cbs,.slice c2 crs.length c5,crs,.slice c3 cds.length c6,cds⟩:InstQ)) n1 r1 m1=0→ocV (prI (InstQ.e (⟨ch,.slice c1 cbs.length c4,cbs,.slice c2 crs.length c5,crs,.slice c3 cds.length c6,cds⟩:InstQ)) n1 r1 m1)=ocV (InstQ.e (⟨ch,.slice c1 cbs.length c4,cbs,.slice c2 crs.length c5,crs,.slice c3 cds.length c6,cds⟩:InstQ)))):=⟨fun h1 h2=>stays_go h1 h2,fun h1 h2=>stays_pr h1 h2⟩
  have HNN:Hid ((∀ q:InstQ,q.e=goI (InstQ.e (⟨ch,.slice c1 cbs.length c4,cbs,.slice c2 crs.length c5,crs,.slice c3 cds.length c6,cds⟩:InstQ)) n1 r1 m1 cn→q.n≤1048576)∧∀ q:InstQ,q.e=prI (InstQ.e (⟨ch,.slice c1 cbs.length c4,cbs,.slice c2 crs.length c5,crs,.slice c3 cds.length c6,cds⟩:InstQ)) n1 r1 m1→q.n≤1048576):=⟨fun q hq=>goI_n hq hl,fun q hq=>prI_n hq hl⟩
  dsimp only at hio hso hig hsg hip hsp
  generalize goC (InstQ.e (⟨ch,.slice c1 cbs.length c4,cbs,.slice c2 crs.length c5,crs,.slice c3 cds.length c6,cds⟩:InstQ)) n1 r1 m1 cn=D at *
  generalize goI (InstQ.e (⟨ch,.slice c1 cbs.length c4,cbs,.slice c2 crs.length c5,crs,.slice c3 cds.length c6,cds⟩:InstQ)) n1 r1 m1 cn=EG at *
  generalize goZ (InstQ.e (⟨ch,.slice c1 cbs.length c4,cbs,.slice c2 crs.length c5,crs,.slice c3 cds.length c6,cds⟩:InstQ)) n1 r1 m1 cn=K0 at *
  generalize goD (InstQ.e (⟨ch,.slice c1 cbs.length c4,cbs,.slice c2 crs.length c5,crs,.slice c3 cds.length c6,cds⟩:InstQ)) n1 r1 m1 cn=K1 at *
  generalize goK (InstQ.e (⟨ch,.slice c1 cbs.length c4,cbs,.slice c2 crs.length c5,crs,.slice c3 cds.length c6,cds⟩:InstQ)) n1 r1 m1 cn=K2 at *
  generalize goV (InstQ.e (⟨ch,.slice c1 cbs.length c4,cbs,.slice c2 crs.length c5,crs,.slice c3 cds.length c6,cds⟩:InstQ)) n1 r1 m1 cn=K3 at *
  generalize prC (InstQ.e (⟨ch,.slice c1 cbs.length c4,cbs,.slice c2 crs.length c5,crs,.slice c3 cds.length c6,cds⟩:InstQ)) n1 r1 m1=P at *
  generalize prI (InstQ.e (⟨ch,.slice c1 cbs.length c4,cbs,.slice c2 crs.length c5,crs,.slice c3 cds.length c6,cds⟩:InstQ)) n1 r1 m1=EP at *
  generalize ocC (InstQ.e (⟨ch,.slice c1 cbs.length c4,cbs,.slice c2 crs.length c5,crs,.slice c3 cds.length c6,cds⟩:InstQ))=OC at *
  generalize ocV (InstQ.e (⟨ch,.slice c1 cbs.length c4,cbs,.slice c2 crs.length c5,crs,.slice c3 cds.length c6,cds⟩:InstQ))=OV at *
  have B3:=Blk.new w2 28 #[.bool ch,.slice c1 cbs.length c4,.slice c2 crs.length c5,.slice c3 cds.length c6]
  have hbA:Below w2.heap.size w2 (w2.alloc (.cells #[.bool ch,.slice c1 cbs.length c4,.slice c2 crs.length c5,.slice c3 cds.length c6] 28)):=by go_grown
  have rq:=instK.rd_below (instK.own_rd oq) hbA
  replace hb:=hb.trans (hbA.mono hb.size)
  clear hbA oq
  have p0:=B3.cell 0 _ rfl
  have p1:=B3.cell 1 _ rfl
  have p2:=B3.cell 2 _ rfl
  have p3:=B3.cell 3 _ rfl
  go_wp2_with fail
  clear p0 p1 p2 p3
  generalize w2.alloc (.cells #[.bool ch,.slice c1 cbs.length c4,.slice c2 crs.length c5,.slice c3 cds.length c6] 28)=W2 at *
  refine (hio W2 (hG.r.below hb) rq).mono ?_
  rintro e w4 ⟨rfl,hb4⟩
  have B8:=Blk.new w4 50 #[.int .i64 OC,.int .i64 OV]
  have hbA:Below w4.heap.size w4 (w4.alloc (.cells #[.int .i64 OC,.int .i64 OV] 50)):=by go_grown
  replace hb:=hb.trans (hb4.mono hb.size)
  replace hb:=hb.trans (hbA.mono hb.size)
  replace rq:=instK.rd_below (instK.rd_below rq hb4) hbA
  replace B3:=(B3.below hb4).below hbA
  clear hb4 hbA hio
  have p0:=B3.cell 0 _ rfl
  have p1:=B3.cell 1 _ rfl
  have p2:=B3.cell 2 _ rfl
  have p3:=B3.cell 3 _ rfl
  go_wp2_with fail
  clear p0 p1 p2 p3
  generalize w4.alloc (.cells #[.int .i64 OC,.int .i64 OV] 50)=W4 at *
  refine (hig W4 (hG.below hb) rq).mono ?_
  rintro e w5 ⟨q2,rfl,eqG,o2,_,_,hb5⟩
  obtain ⟨dh,db,dbs,dr,drs,dd,dds⟩:=q2
  obtain ⟨d1,d4,rfl⟩:∃ a c,db=.slice a dbs.length c:=o2.1.shape
  obtain ⟨d2,d5,rfl⟩:∃ a c,dr=.slice a drs.length c:=o2.2.1.shape
  obtain ⟨d3,d6,rfl⟩:∃ a c,dd=.slice a dds.length c:=o2.2.2.shape
  have G9:=Blk.new w5 34 #[.int .i64 D,.int .i64 K0,.bool K1,.bool K2,.int .i64 K3,.bool dh,.slice d1 dbs.length d4,.slice d2 drs.length d5,.slice d3 dds.length d6]
  have hbA:Below w5.heap.size w5 (w5.alloc (.cells #[.int .i64 D,.int .i64 K0,.bool K1,.bool K2,.int .i64 K3,.bool dh,.slice d1 dbs.length d4,.slice d2 drs.length d5,.slice d3 dds.length d6] 34)):=by go_grown
  replace hb:=hb.trans (hb5.mono hb.size)
  replace hb:=hb.trans (hbA.mono hb.size)
  replace rq:=instK.rd_below (instK.rd_below rq hb5) hbA
  replace B3:=(B3.below hb5).below hbA
  replace B8:=(B8.below hb5).below hbA
  have rd:=instK.rd_below (instK.own_rd o2) hbA
  clear hb5 hbA hig o2
  have p0:=B3.cell 0 _ rfl
  have p1:=B3.cell 1 _ rfl
  have p2:=B3.cell 2 _ rfl
  have p3:=B3.cell 3 _ rfl
  go_wp2_with fail
  clear p0 p1 p2 p3
  generalize w5.alloc (.cells #[.int .i64 D,.int .i64 K0,.bool K1,.bool K2,.int .i64 K3,.bool dh,.slice d1 dbs.length d4,.slice d2 drs.length d5,.slice d3 dds.length d6] 34)=W5 at *
  refine (hip W5 (hG.r.below hb) rq).mono ?_
  rintro e w6 ⟨q3,rfl,eqP,o3,_,_,hb6⟩
  obtain ⟨fh,fb,fbs,fr,frs,fd,fds⟩:=q3
  obtain ⟨f1,f4,rfl⟩:∃ a c,fb=.slice a fbs.length c:=o3.1.shape
  obtain ⟨f2,f5,rfl⟩:∃ a c,fr=.slice a frs.length c:=o3.2.1.shape
  obtain ⟨f3,f6,rfl⟩:∃ a c,fd=.slice a fds.length c:=o3.2.2.shape
  have G10:=Blk.new w6 34 #[.int .i64 P,.int .i64 0,.bool false,.bool false,.int .i64 0,.bool fh,.slice f1 fbs.length f4,.slice f2 frs.length f5,.slice f3 fds.length f6]
  have hbA:Below w6.heap.size w6 (w6.alloc (.cells #[.int .i64 P,.int .i64 0,.bool false,.bool false,.int .i64 0,.bool fh,.slice f1 fbs.length f4,.slice f2 frs.length f5,.slice f3 fds.length f6] 34)):=by go_grown
  replace hb:=hb.trans (hb6.mono hb.size)
  replace hb:=hb.trans (hbA.mono hb.size)
  replace rq:=instK.rd_below (instK.rd_below rq hb6) hbA
  replace rd:=instK.rd_below (instK.rd_below rd hb6) hbA
  replace B3:=(B3.below hb6).below hbA
  replace B8:=(B8.below hb6).below hbA
  replace G9:=(G9.below hb6).below hbA
  have re:=instK.rd_below (instK.own_rd o3) hbA
  clear hb6 hbA hip o3
  go_wp2_with fail
  generalize w6.alloc (.cells #[.int .i64 P,.int .i64 0,.bool false,.bool false,.int .i64 0,.bool fh,.slice f1 fbs.length f4,.slice f2 frs.length f5,.slice f3 fds.length f6] 34)=W6 at *
  have hW:Below W6.heap.size W6 W6.drew:=(Below.refl _ _).drew
  have hnn:Nonempty (Lat W6):=⟨⟨W6,Below.refl _ _⟩⟩
  have b30:=B3.lat 0 _ rfl
  have b31:=B3.lat 1 _ rfl
  have b32:=B3.lat 2 _ rfl
  have b33:=B3.lat 3 _ rfl
  have b80:=B8.lat 0 _ rfl
  have b81:=B8.lat 1 _ rfl
  have g90:=G9.lat 0 _ rfl
  have g100:=G10.lat 0 _ rfl
  have t0:(OC != OC)=false:=by simp
  have t1:(OV != OV)=false:=by simp
  have t2:(D != D)=false:=by simp
  have t3:(P != P)=false:=by simp
  refine text_begin (S:=fun w' => ∃ u:Lat W6,w' = u.val) (by kernel_rfl) ?_
  refine seg_range [(0,3)] 34 (by kernel_rfl) (by kernel_rfl) (by kernel_rfl) (by kernel_rfl) (by kernel_rfl) ⟨⟨_,hW⟩,rfl⟩ ?_
  simp only [pickR,List.toList_toArray,List.flatMap_cons,List.flatMap_nil,List.drop_succ_cons,List.drop_zero,List.take_succ_cons,List.take_zero,List.cons_append,List.nil_append,List.append_nil]
  repeat go_big_quiet_step (fail)
  refine wpQuiet_nil ?_
  refine call_at 3 (some 37) 26 #[.agg #[.bool ch,.slice c1 cbs.length c4,.slice c2 crs.length c5,.slice c3 cds.length c6]] 33 (by kernel_rfl) (by kernel_rfl) (by kernel_rfl) (by kernel_rfl) (by kernel_rfl) ?_
  refine (hso _ (instK.rd_below rq hW)).mono ?_
  rintro e w9 ⟨rfl,hb9⟩
  replace hW:=hW.trans (hb9.mono hW.size)
  clear hb9
  refine ⟨_,rfl,⟨⟨_,hW⟩,rfl⟩,?_⟩
  simp only [Act.put,List.setIfInBounds_toArray,List.set_cons_zero,List.set_cons_succ]
  refine quiet_at 4 (some 38) (.int .i64 OC) 32 (by kernel_rfl) (by kernel_rfl) (by kernel_rfl) (by kernel_rfl) (by kernel_rfl) (fun u _=>by kernel_rfl) ⟨⟨_,hW⟩,rfl⟩ ?_
  simp only [Act.put,List.setIfInBounds_toArray,List.set_cons_zero,List.set_cons_succ]
  refine seg_range [(5,5)] 27 (by kernel_rfl) (by kernel_rfl) (by kernel_rfl) (by kernel_rfl) (by kernel_rfl) ⟨⟨_,hW⟩,rfl⟩ ?_
  simp only [pickR,List.toList_toArray,List.flatMap_cons,List.flatMap_nil,List.drop_succ_cons,List.drop_zero,List.take_succ_cons,List.take_zero,List.cons_append,List.nil_append,List.append_nil]
  repeat go_big_quiet_step (fail)
  refine wpQuiet_nil ?_
  refine call_at 10 (some 44) 26 #[.agg #[.bool ch,.slice c1 cbs.length c4,.slice c2 crs.length c5,.slice c3 cds.length c6]] 26 (by kernel_rfl) (by kernel_rfl) (by kernel_rfl) (by kernel_rfl) (by kernel_rfl) ?_
  refine (hso _ (instK.rd_below rq hW)).mono ?_
  rintro e w9 ⟨rfl,hb9⟩
  replace hW:=hW.trans (hb9.mono hW.size)
  clear hb9
  refine ⟨_,rfl,⟨⟨_,hW⟩,rfl⟩,?_⟩
  simp only [Act.put,List.setIfInBounds_toArray,List.set_cons_zero,List.set_cons_succ]
  refine quiet_at 11 (some 45) (.int .i64 OV) 25 (by kernel_rfl) (by kernel_rfl) (by kernel_rfl) (by kernel_rfl) (by kernel_rfl) (fun u _=>by kernel_rfl) ⟨⟨_,hW⟩,rfl⟩ ?_
  simp only [Act.put,List.setIfInBounds_toArray,List.set_cons_zero,List.set_cons_succ]
  refine seg_range [(12,10)] 15 (by kernel_rfl) (by kernel_rfl) (by kernel_rfl) (by kernel_rfl) (by kernel_rfl) ⟨⟨_,hW⟩,rfl⟩ ?_
  simp only [pickR,List.toList_toArray,List.flatMap_cons,List.flatMap_nil,List.drop_succ_cons,List.drop_zero,List.take_succ_cons,List.take_zero,List.cons_append,List.nil_append,List.append_nil]
  repeat go_big_quiet_step (fail)
  refine wpQuiet_nil ?_
  refine call_at 22 (some 56) 23 #[.agg #[.bool ch,.slice c1 cbs.length c4,.slice c2 crs.length c5,.slice c3 cds.length c6],.int .i64 n1,.int .i64 r1,.int .i64 m1,.int .i64 cn] 14 (by kernel_rfl) (by kernel_rfl) (by kernel_rfl) (by kernel_rfl) (by kernel_rfl) ?_
  refine (hsg _ (instK.rd_below rq hW)).mono ?_
  rintro e w9 ⟨q9,rfl,_,_,_,_,hb9⟩
  replace hW:=hW.trans (hb9.mono hW.size)
  clear hb9
  refine ⟨_,rfl,⟨⟨_,hW⟩,rfl⟩,?_⟩
  simp only [Act.put,List.setIfInBounds_toArray,List.set_cons_zero,List.set_cons_succ]
  refine quiet_at 23 (some 57) (.int .i64 D) 13 (by kernel_rfl) (by kernel_rfl) (by kernel_rfl) (by kernel_rfl) (by kernel_rfl) (fun u _=>by kernel_rfl) ⟨⟨_,hW⟩,rfl⟩ ?_
  simp only [Act.put,List.setIfInBounds_toArray,List.set_cons_zero,List.set_cons_succ]
  refine seg_range [(24,9)] 4 (by kernel_rfl) (by kernel_rfl) (by kernel_rfl) (by kernel_rfl) (by kernel_rfl) ⟨⟨_,hW⟩,rfl⟩ ?_
  simp only [pickR,List.toList_toArray,List.flatMap_cons,List.flatMap_nil,List.drop_succ_cons,List.drop_zero,List.take_succ_cons,List.take_zero,List.cons_append,List.nil_append,List.append_nil]
  repeat go_big_quiet_step (fail)
  refine wpQuiet_nil ?_
  refine call_at 33 (some 67) 22 #[.agg #[.bool ch,.slice c1 cbs.length c4,.slice c2 crs.length c5,.slice c3 cds.length c6],.int .i64 n1,.int .i64 r1,.int .i64 m1] 3 (by kernel_rfl) (by kernel_rfl) (by kernel_rfl) (by kernel_rfl) (by kernel_rfl) ?_
  refine (hsp _ (instK.rd_below rq hW)).mono ?_
  rintro e w9 ⟨q8,rfl,_,_,_,_,hb9⟩
  replace hW:=hW.trans (hb9.mono hW.size)
  clear hb9
  refine ⟨_,rfl,⟨⟨_,hW⟩,rfl⟩,?_⟩
  simp only [Act.put,List.setIfInBounds_toArray,List.set_cons_zero,List.set_cons_succ]
  refine quiet_at 34 (some 68) (.int .i64 P) 2 (by kernel_rfl) (by kernel_rfl) (by kernel_rfl) (by kernel_rfl) (by kernel_rfl) (fun u _=>by kernel_rfl) ⟨⟨_,hW⟩,rfl⟩ ?_
  simp only [Act.put,List.setIfInBounds_toArray,List.set_cons_zero,List.set_cons_succ]
  refine seg_range [(35,2)] 0 (by kernel_rfl) (by kernel_rfl) (by kernel_rfl) (by kernel_rfl) (by kernel_rfl) ⟨⟨_,hW⟩,rfl⟩ ?_
  simp only [pickR,List.toList_toArray,List.flatMap_cons,List.flatMap_nil,List.drop_succ_cons,List.drop_zero,List.take_succ_cons,List.take_zero,List.cons_append,List.nil_append,List.append_nil]
  repeat go_big_quiet_step (fail)
  refine wpQuiet_nil ?_
  refine text_end (by kernel_rfl) ?_
  replace hb:=hb.trans (hW.mono hb.size)
  replace rd:=instK.rd_below rd hW
  replace re:=instK.rd_below re hW
  replace B8:=B8.below hW
  replace G9:=G9.below hW
  replace G10:=G10.below hW
  clear b30 b31 b32 b33 b80 b81 g90 g100 t0 t1 t2 t3 hnn hW hso hsg hsp rq B3
  generalize w9=X at *
  have c80:=B8.cell 0 _ rfl
  by_cases hoc:OC=0
  case neg=>
   have hoc' : (OC != 0)=true:=by simpa using hoc
   go_wp2
   go_ret
   exact ⟨rfl,hb⟩
  case pos=>
   have HG:Hid (D=0→ocC (InstQ.e (⟨dh,.slice d1 dbs.length d4,dbs,.slice d2 drs.length d5,drs,.slice d3 dds.length d6,dds⟩:InstQ))=0∧ocV (InstQ.e (⟨dh,.slice d1 dbs.length d4,dbs,.slice d2 drs.length d5,drs,.slice d3 dds.length d6,dds⟩:InstQ))=OV∧(K1=true→K3=OV)):=fun h9=>by rw [eqG];exact HST.out.1 hoc h9
   have HP:Hid (P=0→ocV (InstQ.e (⟨fh,.slice f1 fbs.length f4,fbs,.slice f2 frs.length f5,frs,.slice f3 fds.length f6,fds⟩:InstQ))=OV):=fun h9=>by rw [eqP];exact HST.out.2 hoc h9
   have hl2:InstQ.n (⟨dh,.slice d1 dbs.length d4,dbs,.slice d2 drs.length d5,drs,.slice d3 dds.length d6,dds⟩:InstQ)≤1048576:=HNN.out.1 _ eqG
   have hl3:InstQ.n (⟨fh,.slice f1 fbs.length f4,fbs,.slice f2 frs.length f5,frs,.slice f3 fds.length f6,fds⟩:InstQ)≤1048576:=HNN.out.2 _ eqP
   have hog0:=fun w hG h=>implOutcome_any (⟨dh,.slice d1 dbs.length d4,dbs,.slice d2 drs.length d5,drs,.slice d3 dds.length d6,dds⟩:InstQ) w hG h hl2
   have hop0:=fun w hG h=>implOutcome_any (⟨fh,.slice f1 fbs.length f4,fbs,.slice f2 frs.length f5,frs,.slice f3 fds.length f6,fds⟩:InstQ) w hG h hl3
   have hGX:=hG.below hb
   subst hoc
   go_wp2_with fail
   clear c80 HST HNN eqG eqP
   have hov:(OV == OV)=true:=by simp
   by_cases hp:P=0
   ·have ep:=HP.out hp
    have hop:∀ w (hG:Rul w) (h:instK.rd w (⟨fh,.slice f1 fbs.length f4,fbs,.slice f2 frs.length f5,frs,.slice f3 fds.length f6,fds⟩:InstQ)),Calls Tryz.prog 25 #[.agg #[.bool fh,.slice f1 fbs.length f4,.slice f2 frs.length f5,.slice f3 fds.length f6]] w fun e w' => e=.returned (.agg #[.int .i64 (ocC (InstQ.e (⟨fh,.slice f1 fbs.length f4,fbs,.slice f2 frs.length f5,frs,.slice f3 fds.length f6,fds⟩:InstQ))),.int .i64 OV])∧Below w.heap.size w w' := fun w hG h=>by
     have:=hop0 w hG h
     rw [ep] at this
     exact this
    clear hop0 ep HP
    generalize ocC (InstQ.e (⟨fh,.slice f1 fbs.length f4,fbs,.slice f2 frs.length f5,frs,.slice f3 fds.length f6,fds⟩:InstQ))=OE at *
    subst hp
    by_cases hd:D=0
    ·obtain ⟨ed1,ed2,ed3⟩:=HG.out hd
     have hog:∀ w (hG:Rul w) (h:instK.rd w (⟨dh,.slice d1 dbs.length d4,dbs,.slice d2 drs.length d5,drs,.slice d3 dds.length d6,dds⟩:InstQ)),Calls Tryz.prog 25 #[.agg #[.bool dh,.slice d1 dbs.length d4,.slice d2 drs.length d5,.slice d3 dds.length d6]] w fun e w' => e=.returned (.agg #[.int .i64 0,.int .i64 OV])∧Below w.heap.size w w' := fun w hG h=>by
      have:=hog0 w hG h
      rw [ed1,ed2] at this
      exact this
     clear hog0 ed1 ed2 HG
     subst hd
     cases K1 with
     | true=>
      have ek:=(ed3 rfl).symm
      subst ek
      clear ed3
      have hW:Below X.heap.size X X.drew:=(Below.refl _ _).drew
      have hnn:Nonempty (Lat X):=⟨⟨X,Below.refl _ _⟩⟩
      have b80:=B8.lat 0 _ rfl
      have b81:=B8.lat 1 _ rfl
      have g90:=G9.lat 0 _ rfl
      have g92:=G9.lat 2 _ rfl
      have g94:=G9.lat 4 _ rfl
      have g95:=G9.lat 5 _ rfl
      have g96:=G9.lat 6 _ rfl
      have g97:=G9.lat 7 _ rfl
      have g98:=G9.lat 8 _ rfl
      have g100:=G10.lat 0 _ rfl
      have g105:=G10.lat 5 _ rfl
      have g106:=G10.lat 6 _ rfl
      have g107:=G10.lat 7 _ rfl
      have g108:=G10.lat 8 _ rfl
      refine text_begin (S:=fun w' => ∃ u:Lat X,w' = u.val) (by kernel_rfl) ?_
      refine seg_range [(0,6),(8,2)] 40 (by kernel_rfl) (by kernel_rfl) (by kernel_rfl) (by kernel_rfl) (by kernel_rfl) ⟨⟨_,hW⟩,rfl⟩ ?_
      simp only [pickR,List.toList_toArray,List.flatMap_cons,List.flatMap_nil,List.drop_succ_cons,List.drop_zero,List.take_succ_cons,List.take_zero,List.cons_append,List.nil_append,List.append_nil]
      repeat go_big_quiet_step (fail)
      refine wpQuiet_nil ?_
      refine call_at 6 (some 80) 25 #[.agg #[.bool dh,.slice d1 dbs.length d4,.slice d2 drs.length d5,.slice d3 dds.length d6]] 39 (by kernel_rfl) (by kernel_rfl) (by kernel_rfl) (by kernel_rfl) (by kernel_rfl) ?_
      refine (hog _ (hGX.r.below hW) (instK.rd_below rd hW)).mono ?_
      rintro e w9 ⟨rfl,hb9⟩
      replace hW:=hW.trans (hb9.mono hW.size)
      clear hb9
      refine ⟨_,rfl,⟨⟨_,hW⟩,rfl⟩,?_⟩
      simp only [Act.put,List.setIfInBounds_toArray,List.set_cons_zero,List.set_cons_succ]
      refine quiet_at 7 (some 81) (.int .i64 OV) 38 (by kernel_rfl) (by kernel_rfl) (by kernel_rfl) (by kernel_rfl) (by kernel_rfl) (fun u _=>by kernel_rfl) ⟨⟨_,hW⟩,rfl⟩ ?_
      simp only [Act.put,List.setIfInBounds_toArray,List.set_cons_zero,List.set_cons_succ]
      refine seg_range [(10,4)] 34 (by kernel_rfl) (by kernel_rfl) (by kernel_rfl) (by kernel_rfl) (by kernel_rfl) ⟨⟨_,hW⟩,rfl⟩ ?_
      simp only [pickR,List.toList_toArray,List.flatMap_cons,List.flatMap_nil,List.drop_succ_cons,List.drop_zero,List.take_succ_cons,List.take_zero,List.cons_append,List.nil_append,List.append_nil]
      repeat go_big_quiet_step (fail)
      refine wpQuiet_nil ?_
      refine call_at 14 (some 88) 25 #[.agg #[.bool dh,.slice d1 dbs.length d4,.slice d2 drs.length d5,.slice d3 dds.length d6]] 33 (by kernel_rfl) (by kernel_rfl) (by kernel_rfl) (by kernel_rfl) (by kernel_rfl) ?_
      refine (hog _ (hGX.r.below hW) (instK.rd_below rd hW)).mono ?_
      rintro e w9 ⟨rfl,hb9⟩
      replace hW:=hW.trans (hb9.mono hW.size)
      clear hb9
      refine ⟨_,rfl,⟨⟨_,hW⟩,rfl⟩,?_⟩
      simp only [Act.put,List.setIfInBounds_toArray,List.set_cons_zero,List.set_cons_succ]
      refine quiet_at 15 (some 89) (.int .i64 0) 32 (by kernel_rfl) (by kernel_rfl) (by kernel_rfl) (by kernel_rfl) (by kernel_rfl) (fun u _=>by kernel_rfl) ⟨⟨_,hW⟩,rfl⟩ ?_
      simp only [Act.put,List.setIfInBounds_toArray,List.set_cons_zero,List.set_cons_succ]
      refine seg_range [(16,24),(42,2)] 6 (by kernel_rfl) (by kernel_rfl) (by kernel_rfl) (by kernel_rfl) (by kernel_rfl) ⟨⟨_,hW⟩,rfl⟩ ?_
      simp only [pickR,List.toList_toArray,List.flatMap_cons,List.flatMap_nil,List.drop_succ_cons,List.drop_zero,List.take_succ_cons,List.take_zero,List.cons_append,List.nil_append,List.append_nil]
      repeat go_big_quiet_step (fail)
      refine wpQuiet_nil ?_
      refine call_at 40 (some 114) 25 #[.agg #[.bool fh,.slice f1 fbs.length f4,.slice f2 frs.length f5,.slice f3 fds.length f6]] 5 (by kernel_rfl) (by kernel_rfl) (by kernel_rfl) (by kernel_rfl) (by kernel_rfl) ?_
      refine (hop _ (hGX.r.below hW) (instK.rd_below re hW)).mono ?_
      rintro e w9 ⟨rfl,hb9⟩
      replace hW:=hW.trans (hb9.mono hW.size)
      clear hb9
      refine ⟨_,rfl,⟨⟨_,hW⟩,rfl⟩,?_⟩
      simp only [Act.put,List.setIfInBounds_toArray,List.set_cons_zero,List.set_cons_succ]
      refine quiet_at 41 (some 115) (.int .i64 OV) 4 (by kernel_rfl) (by kernel_rfl) (by kernel_rfl) (by kernel_rfl) (by kernel_rfl) (fun u _=>by kernel_rfl) ⟨⟨_,hW⟩,rfl⟩ ?_
      simp only [Act.put,List.setIfInBounds_toArray,List.set_cons_zero,List.set_cons_succ]
      refine seg_range [(44,4)] 0 (by kernel_rfl) (by kernel_rfl) (by kernel_rfl) (by kernel_rfl) (by kernel_rfl) ⟨⟨_,hW⟩,rfl⟩ ?_
      simp only [pickR,List.toList_toArray,List.flatMap_cons,List.flatMap_nil,List.drop_succ_cons,List.drop_zero,List.take_succ_cons,List.take_zero,List.cons_append,List.nil_append,List.append_nil]
      repeat go_big_quiet_step (fail)
      refine wpQuiet_nil ?_
      refine text_end (by kernel_rfl) ?_
      replace hb:=hb.trans (hW.mono hb.size)
      go_wp2
      go_ret
      exact ⟨rfl,hb⟩

     | false=>
      clear ed3
      have hW:Below X.heap.size X X.drew:=(Below.refl _ _).drew
      have hnn:Nonempty (Lat X):=⟨⟨X,Below.refl _ _⟩⟩
      have b80:=B8.lat 0 _ rfl
      have b81:=B8.lat 1 _ rfl
      have g90:=G9.lat 0 _ rfl
      have g92:=G9.lat 2 _ rfl
      have g94:=G9.lat 4 _ rfl
      have g95:=G9.lat 5 _ rfl
      have g96:=G9.lat 6 _ rfl
      have g97:=G9.lat 7 _ rfl
      have g98:=G9.lat 8 _ rfl
      have g100:=G10.lat 0 _ rfl
      have g105:=G10.lat 5 _ rfl
      have g106:=G10.lat 6 _ rfl
      have g107:=G10.lat 7 _ rfl
      have g108:=G10.lat 8 _ rfl
      refine text_begin (S:=fun w' => ∃ u:Lat X,w' = u.val) (by kernel_rfl) ?_
      refine seg_range [(0,6),(8,2)] 40 (by kernel_rfl) (by kernel_rfl) (by kernel_rfl) (by kernel_rfl) (by kernel_rfl) ⟨⟨_,hW⟩,rfl⟩ ?_
      simp only [pickR,List.toList_toArray,List.flatMap_cons,List.flatMap_nil,List.drop_succ_cons,List.drop_zero,List.take_succ_cons,List.take_zero,List.cons_append,List.nil_append,List.append_nil]
      repeat go_big_quiet_step (fail)
      refine wpQuiet_nil ?_
      refine call_at 6 (some 80) 25 #[.agg #[.bool dh,.slice d1 dbs.length d4,.slice d2 drs.length d5,.slice d3 dds.length d6]] 39 (by kernel_rfl) (by kernel_rfl) (by kernel_rfl) (by kernel_rfl) (by kernel_rfl) ?_
      refine (hog _ (hGX.r.below hW) (instK.rd_below rd hW)).mono ?_
      rintro e w9 ⟨rfl,hb9⟩
      replace hW:=hW.trans (hb9.mono hW.size)
      clear hb9
      refine ⟨_,rfl,⟨⟨_,hW⟩,rfl⟩,?_⟩
      simp only [Act.put,List.setIfInBounds_toArray,List.set_cons_zero,List.set_cons_succ]
      refine quiet_at 7 (some 81) (.int .i64 OV) 38 (by kernel_rfl) (by kernel_rfl) (by kernel_rfl) (by kernel_rfl) (by kernel_rfl) (fun u _=>by kernel_rfl) ⟨⟨_,hW⟩,rfl⟩ ?_
      simp only [Act.put,List.setIfInBounds_toArray,List.set_cons_zero,List.set_cons_succ]
      refine seg_range [(10,4)] 34 (by kernel_rfl) (by kernel_rfl) (by kernel_rfl) (by kernel_rfl) (by kernel_rfl) ⟨⟨_,hW⟩,rfl⟩ ?_
      simp only [pickR,List.toList_toArray,List.flatMap_cons,List.flatMap_nil,List.drop_succ_cons,List.drop_zero,List.take_succ_cons,List.take_zero,List.cons_append,List.nil_append,List.append_nil]
      repeat go_big_quiet_step (fail)
      refine wpQuiet_nil ?_
      refine call_at 14 (some 88) 25 #[.agg #[.bool dh,.slice d1 dbs.length d4,.slice d2 drs.length d5,.slice d3 dds.length d6]] 33 (by kernel_rfl) (by kernel_rfl) (by kernel_rfl) (by kernel_rfl) (by kernel_rfl) ?_
      refine (hog _ (hGX.r.below hW) (instK.rd_below rd hW)).mono ?_
      rintro e w9 ⟨rfl,hb9⟩
      replace hW:=hW.trans (hb9.mono hW.size)
      clear hb9
      refine ⟨_,rfl,⟨⟨_,hW⟩,rfl⟩,?_⟩
      simp only [Act.put,List.setIfInBounds_toArray,List.set_cons_zero,List.set_cons_succ]
      refine quiet_at 15 (some 89) (.int .i64 0) 32 (by kernel_rfl) (by kernel_rfl) (by kernel_rfl) (by kernel_rfl) (by kernel_rfl) (fun u _=>by kernel_rfl) ⟨⟨_,hW⟩,rfl⟩ ?_
      simp only [Act.put,List.setIfInBounds_toArray,List.set_cons_zero,List.set_cons_succ]
      refine seg_range [(16,24),(42,2)] 6 (by kernel_rfl) (by kernel_rfl) (by kernel_rfl) (by kernel_rfl) (by kernel_rfl) ⟨⟨_,hW⟩,rfl⟩ ?_
      simp only [pickR,List.toList_toArray,List.flatMap_cons,List.flatMap_nil,List.drop_succ_cons,List.drop_zero,List.take_succ_cons,List.take_zero,List.cons_append,List.nil_append,List.append_nil]
      repeat go_big_quiet_step (fail)
      refine wpQuiet_nil ?_
      refine call_at 40 (some 114) 25 #[.agg #[.bool fh,.slice f1 fbs.length f4,.slice f2 frs.length f5,.slice f3 fds.length f6]] 5 (by kernel_rfl) (by kernel_rfl) (by kernel_rfl) (by kernel_rfl) (by kernel_rfl) ?_
      refine (hop _ (hGX.r.below hW) (instK.rd_below re hW)).mono ?_
      rintro e w9 ⟨rfl,hb9⟩
      replace hW:=hW.trans (hb9.mono hW.size)
      clear hb9
      refine ⟨_,rfl,⟨⟨_,hW⟩,rfl⟩,?_⟩
      simp only [Act.put,List.setIfInBounds_toArray,List.set_cons_zero,List.set_cons_succ]
      refine quiet_at 41 (some 115) (.int .i64 OV) 4 (by kernel_rfl) (by kernel_rfl) (by kernel_rfl) (by kernel_rfl) (by kernel_rfl) (fun u _=>by kernel_rfl) ⟨⟨_,hW⟩,rfl⟩ ?_
      simp only [Act.put,List.setIfInBounds_toArray,List.set_cons_zero,List.set_cons_succ]
      refine seg_range [(44,4)] 0 (by kernel_rfl) (by kernel_rfl) (by kernel_rfl) (by kernel_rfl) (by kernel_rfl) ⟨⟨_,hW⟩,rfl⟩ ?_
      simp only [pickR,List.toList_toArray,List.flatMap_cons,List.flatMap_nil,List.drop_succ_cons,List.drop_zero,List.take_succ_cons,List.take_zero,List.cons_append,List.nil_append,List.append_nil]
      repeat go_big_quiet_step (fail)
      refine wpQuiet_nil ?_
      refine text_end (by kernel_rfl) ?_
      replace hb:=hb.trans (hW.mono hb.size)
      go_wp2
      go_ret
      exact ⟨rfl,hb⟩

    ·have hd' : (D != 0)=true:=by simpa using hd
     clear HG hog0 hd
     have hW:Below X.heap.size X X.drew:=(Below.refl _ _).drew
     have hnn:Nonempty (Lat X):=⟨⟨X,Below.refl _ _⟩⟩
     have b80:=B8.lat 0 _ rfl
     have b81:=B8.lat 1 _ rfl
     have g90:=G9.lat 0 _ rfl
     have g92:=G9.lat 2 _ rfl
     have g94:=G9.lat 4 _ rfl
     have g95:=G9.lat 5 _ rfl
     have g96:=G9.lat 6 _ rfl
     have g97:=G9.lat 7 _ rfl
     have g98:=G9.lat 8 _ rfl
     have g100:=G10.lat 0 _ rfl
     have g105:=G10.lat 5 _ rfl
     have g106:=G10.lat 6 _ rfl
     have g107:=G10.lat 7 _ rfl
     have g108:=G10.lat 8 _ rfl
     refine text_begin (S:=fun w' => ∃ u:Lat X,w' = u.val) (by kernel_rfl) ?_
     refine seg_range [(0,6),(8,2)] 40 (by kernel_rfl) (by kernel_rfl) (by kernel_rfl) (by kernel_rfl) (by kernel_rfl) ⟨⟨_,hW⟩,rfl⟩ ?_
     simp only [pickR,List.toList_toArray,List.flatMap_cons,List.flatMap_nil,List.drop_succ_cons,List.drop_zero,List.take_succ_cons,List.take_zero,List.cons_append,List.nil_append,List.append_nil]
     repeat go_big_quiet_step (fail)
     refine wpQuiet_nil ?_
     refine skip_at 6 (some 80) 39 (by kernel_rfl) (by kernel_rfl) (by kernel_rfl) (by kernel_rfl) (by kernel_rfl) ⟨⟨_,hW⟩,rfl⟩ ?_
     simp only [Act.put,List.setIfInBounds_toArray,List.set_cons_zero,List.set_cons_succ]
     refine skip_at 7 (some 81) 38 (by kernel_rfl) (by kernel_rfl) (by kernel_rfl) (by kernel_rfl) (by kernel_rfl) ⟨⟨_,hW⟩,rfl⟩ ?_
     simp only [Act.put,List.setIfInBounds_toArray,List.set_cons_zero,List.set_cons_succ]
     refine seg_range [(10,4)] 34 (by kernel_rfl) (by kernel_rfl) (by kernel_rfl) (by kernel_rfl) (by kernel_rfl) ⟨⟨_,hW⟩,rfl⟩ ?_
     simp only [pickR,List.toList_toArray,List.flatMap_cons,List.flatMap_nil,List.drop_succ_cons,List.drop_zero,List.take_succ_cons,List.take_zero,List.cons_append,List.nil_append,List.append_nil]
     repeat go_big_quiet_step (fail)
     refine wpQuiet_nil ?_
     refine skip_at 14 (some 88) 33 (by kernel_rfl) (by kernel_rfl) (by kernel_rfl) (by kernel_rfl) (by kernel_rfl) ⟨⟨_,hW⟩,rfl⟩ ?_
     simp only [Act.put,List.setIfInBounds_toArray,List.set_cons_zero,List.set_cons_succ]
     refine skip_at 15 (some 89) 32 (by kernel_rfl) (by kernel_rfl) (by kernel_rfl) (by kernel_rfl) (by kernel_rfl) ⟨⟨_,hW⟩,rfl⟩ ?_
     simp only [Act.put,List.setIfInBounds_toArray,List.set_cons_zero,List.set_cons_succ]
     refine seg_range [(16,24),(42,2)] 6 (by kernel_rfl) (by kernel_rfl) (by kernel_rfl) (by kernel_rfl) (by kernel_rfl) ⟨⟨_,hW⟩,rfl⟩ ?_
     simp only [pickR,List.toList_toArray,List.flatMap_cons,List.flatMap_nil,List.drop_succ_cons,List.drop_zero,List.take_succ_cons,List.take_zero,List.cons_append,List.nil_append,List.append_nil]
     repeat go_big_quiet_step (fail)
     refine wpQuiet_nil ?_
     refine call_at 40 (some 114) 25 #[.agg #[.bool fh,.slice f1 fbs.length f4,.slice f2 frs.length f5,.slice f3 fds.length f6]] 5 (by kernel_rfl) (by kernel_rfl) (by kernel_rfl) (by kernel_rfl) (by kernel_rfl) ?_
     refine (hop _ (hGX.r.below hW) (instK.rd_below re hW)).mono ?_
     rintro e w9 ⟨rfl,hb9⟩
     replace hW:=hW.trans (hb9.mono hW.size)
     clear hb9
     refine ⟨_,rfl,⟨⟨_,hW⟩,rfl⟩,?_⟩
     simp only [Act.put,List.setIfInBounds_toArray,List.set_cons_zero,List.set_cons_succ]
     refine quiet_at 41 (some 115) (.int .i64 OV) 4 (by kernel_rfl) (by kernel_rfl) (by kernel_rfl) (by kernel_rfl) (by kernel_rfl) (fun u _=>by kernel_rfl) ⟨⟨_,hW⟩,rfl⟩ ?_
     simp only [Act.put,List.setIfInBounds_toArray,List.set_cons_zero,List.set_cons_succ]
     refine seg_range [(44,4)] 0 (by kernel_rfl) (by kernel_rfl) (by kernel_rfl) (by kernel_rfl) (by kernel_rfl) ⟨⟨_,hW⟩,rfl⟩ ?_
     simp only [pickR,List.toList_toArray,List.flatMap_cons,List.flatMap_nil,List.drop_succ_cons,List.drop_zero,List.take_succ_cons,List.take_zero,List.cons_append,List.nil_append,List.append_nil]
     repeat go_big_quiet_step (fail)
     refine wpQuiet_nil ?_
     refine text_end (by kernel_rfl) ?_
     replace hb:=hb.trans (hW.mono hb.size)
     go_wp2
     go_ret
     exact ⟨rfl,hb⟩

   ·have hp' : (P != 0)=true:=by simpa using hp
    clear hop0 HP hp
    by_cases hd:D=0
    ·obtain ⟨ed1,ed2,ed3⟩:=HG.out hd
     have hog:∀ w (hG:Rul w) (h:instK.rd w (⟨dh,.slice d1 dbs.length d4,dbs,.slice d2 drs.length d5,drs,.slice d3 dds.length d6,dds⟩:InstQ)),Calls Tryz.prog 25 #[.agg #[.bool dh,.slice d1 dbs.length d4,.slice d2 drs.length d5,.slice d3 dds.length d6]] w fun e w' => e=.returned (.agg #[.int .i64 0,.int .i64 OV])∧Below w.heap.size w w' := fun w hG h=>by
      have:=hog0 w hG h
      rw [ed1,ed2] at this
      exact this
     clear hog0 ed1 ed2 HG
     subst hd
     cases K1 with
     | true=>
      have ek:=(ed3 rfl).symm
      subst ek
      clear ed3
      have hW:Below X.heap.size X X.drew:=(Below.refl _ _).drew
      have hnn:Nonempty (Lat X):=⟨⟨X,Below.refl _ _⟩⟩
      have b80:=B8.lat 0 _ rfl
      have b81:=B8.lat 1 _ rfl
      have g90:=G9.lat 0 _ rfl
      have g92:=G9.lat 2 _ rfl
      have g94:=G9.lat 4 _ rfl
      have g95:=G9.lat 5 _ rfl
      have g96:=G9.lat 6 _ rfl
      have g97:=G9.lat 7 _ rfl
      have g98:=G9.lat 8 _ rfl
      have g100:=G10.lat 0 _ rfl
      have g105:=G10.lat 5 _ rfl
      have g106:=G10.lat 6 _ rfl
      have g107:=G10.lat 7 _ rfl
      have g108:=G10.lat 8 _ rfl
      refine text_begin (S:=fun w' => ∃ u:Lat X,w' = u.val) (by kernel_rfl) ?_
      refine seg_range [(0,6),(8,2)] 40 (by kernel_rfl) (by kernel_rfl) (by kernel_rfl) (by kernel_rfl) (by kernel_rfl) ⟨⟨_,hW⟩,rfl⟩ ?_
      simp only [pickR,List.toList_toArray,List.flatMap_cons,List.flatMap_nil,List.drop_succ_cons,List.drop_zero,List.take_succ_cons,List.take_zero,List.cons_append,List.nil_append,List.append_nil]
      repeat go_big_quiet_step (fail)
      refine wpQuiet_nil ?_
      refine call_at 6 (some 80) 25 #[.agg #[.bool dh,.slice d1 dbs.length d4,.slice d2 drs.length d5,.slice d3 dds.length d6]] 39 (by kernel_rfl) (by kernel_rfl) (by kernel_rfl) (by kernel_rfl) (by kernel_rfl) ?_
      refine (hog _ (hGX.r.below hW) (instK.rd_below rd hW)).mono ?_
      rintro e w9 ⟨rfl,hb9⟩
      replace hW:=hW.trans (hb9.mono hW.size)
      clear hb9
      refine ⟨_,rfl,⟨⟨_,hW⟩,rfl⟩,?_⟩
      simp only [Act.put,List.setIfInBounds_toArray,List.set_cons_zero,List.set_cons_succ]
      refine quiet_at 7 (some 81) (.int .i64 OV) 38 (by kernel_rfl) (by kernel_rfl) (by kernel_rfl) (by kernel_rfl) (by kernel_rfl) (fun u _=>by kernel_rfl) ⟨⟨_,hW⟩,rfl⟩ ?_
      simp only [Act.put,List.setIfInBounds_toArray,List.set_cons_zero,List.set_cons_succ]
      refine seg_range [(10,4)] 34 (by kernel_rfl) (by kernel_rfl) (by kernel_rfl) (by kernel_rfl) (by kernel_rfl) ⟨⟨_,hW⟩,rfl⟩ ?_
      simp only [pickR,List.toList_toArray,List.flatMap_cons,List.flatMap_nil,List.drop_succ_cons,List.drop_zero,List.take_succ_cons,List.take_zero,List.cons_append,List.nil_append,List.append_nil]
      repeat go_big_quiet_step (fail)
      refine wpQuiet_nil ?_
      refine call_at 14 (some 88) 25 #[.agg #[.bool dh,.slice d1 dbs.length d4,.slice d2 drs.length d5,.slice d3 dds.length d6]] 33 (by kernel_rfl) (by kernel_rfl) (by kernel_rfl) (by kernel_rfl) (by kernel_rfl) ?_
      refine (hog _ (hGX.r.below hW) (instK.rd_below rd hW)).mono ?_
      rintro e w9 ⟨rfl,hb9⟩
      replace hW:=hW.trans (hb9.mono hW.size)
      clear hb9
      refine ⟨_,rfl,⟨⟨_,hW⟩,rfl⟩,?_⟩
      simp only [Act.put,List.setIfInBounds_toArray,List.set_cons_zero,List.set_cons_succ]
      refine quiet_at 15 (some 89) (.int .i64 0) 32 (by kernel_rfl) (by kernel_rfl) (by kernel_rfl) (by kernel_rfl) (by kernel_rfl) (fun u _=>by kernel_rfl) ⟨⟨_,hW⟩,rfl⟩ ?_
      simp only [Act.put,List.setIfInBounds_toArray,List.set_cons_zero,List.set_cons_succ]
      refine seg_range [(16,24),(42,2)] 6 (by kernel_rfl) (by kernel_rfl) (by kernel_rfl) (by kernel_rfl) (by kernel_rfl) ⟨⟨_,hW⟩,rfl⟩ ?_
      simp only [pickR,List.toList_toArray,List.flatMap_cons,List.flatMap_nil,List.drop_succ_cons,List.drop_zero,List.take_succ_cons,List.take_zero,List.cons_append,List.nil_append,List.append_nil]
      repeat go_big_quiet_step (fail)
      refine wpQuiet_nil ?_
      refine skip_at 40 (some 114) 5 (by kernel_rfl) (by kernel_rfl) (by kernel_rfl) (by kernel_rfl) (by kernel_rfl) ⟨⟨_,hW⟩,rfl⟩ ?_
      simp only [Act.put,List.setIfInBounds_toArray,List.set_cons_zero,List.set_cons_succ]
      refine skip_at 41 (some 115) 4 (by kernel_rfl) (by kernel_rfl) (by kernel_rfl) (by kernel_rfl) (by kernel_rfl) ⟨⟨_,hW⟩,rfl⟩ ?_
      simp only [Act.put,List.setIfInBounds_toArray,List.set_cons_zero,List.set_cons_succ]
      refine seg_range [(44,4)] 0 (by kernel_rfl) (by kernel_rfl) (by kernel_rfl) (by kernel_rfl) (by kernel_rfl) ⟨⟨_,hW⟩,rfl⟩ ?_
      simp only [pickR,List.toList_toArray,List.flatMap_cons,List.flatMap_nil,List.drop_succ_cons,List.drop_zero,List.take_succ_cons,List.take_zero,List.cons_append,List.nil_append,List.append_nil]
      repeat go_big_quiet_step (fail)
      refine wpQuiet_nil ?_
      refine text_end (by kernel_rfl) ?_
      replace hb:=hb.trans (hW.mono hb.size)
      go_wp2
      go_ret
      exact ⟨rfl,hb⟩

     | false=>
      clear ed3
      have hW:Below X.heap.size X X.drew:=(Below.refl _ _).drew
      have hnn:Nonempty (Lat X):=⟨⟨X,Below.refl _ _⟩⟩
      have b80:=B8.lat 0 _ rfl
      have b81:=B8.lat 1 _ rfl
      have g90:=G9.lat 0 _ rfl
      have g92:=G9.lat 2 _ rfl
      have g94:=G9.lat 4 _ rfl
      have g95:=G9.lat 5 _ rfl
      have g96:=G9.lat 6 _ rfl
      have g97:=G9.lat 7 _ rfl
      have g98:=G9.lat 8 _ rfl
      have g100:=G10.lat 0 _ rfl
      have g105:=G10.lat 5 _ rfl
      have g106:=G10.lat 6 _ rfl
      have g107:=G10.lat 7 _ rfl
      have g108:=G10.lat 8 _ rfl
      refine text_begin (S:=fun w' => ∃ u:Lat X,w' = u.val) (by kernel_rfl) ?_
      refine seg_range [(0,6),(8,2)] 40 (by kernel_rfl) (by kernel_rfl) (by kernel_rfl) (by kernel_rfl) (by kernel_rfl) ⟨⟨_,hW⟩,rfl⟩ ?_
      simp only [pickR,List.toList_toArray,List.flatMap_cons,List.flatMap_nil,List.drop_succ_cons,List.drop_zero,List.take_succ_cons,List.take_zero,List.cons_append,List.nil_append,List.append_nil]
      repeat go_big_quiet_step (fail)
      refine wpQuiet_nil ?_
      refine call_at 6 (some 80) 25 #[.agg #[.bool dh,.slice d1 dbs.length d4,.slice d2 drs.length d5,.slice d3 dds.length d6]] 39 (by kernel_rfl) (by kernel_rfl) (by kernel_rfl) (by kernel_rfl) (by kernel_rfl) ?_
      refine (hog _ (hGX.r.below hW) (instK.rd_below rd hW)).mono ?_
      rintro e w9 ⟨rfl,hb9⟩
      replace hW:=hW.trans (hb9.mono hW.size)
      clear hb9
      refine ⟨_,rfl,⟨⟨_,hW⟩,rfl⟩,?_⟩
      simp only [Act.put,List.setIfInBounds_toArray,List.set_cons_zero,List.set_cons_succ]
      refine quiet_at 7 (some 81) (.int .i64 OV) 38 (by kernel_rfl) (by kernel_rfl) (by kernel_rfl) (by kernel_rfl) (by kernel_rfl) (fun u _=>by kernel_rfl) ⟨⟨_,hW⟩,rfl⟩ ?_
      simp only [Act.put,List.setIfInBounds_toArray,List.set_cons_zero,List.set_cons_succ]
      refine seg_range [(10,4)] 34 (by kernel_rfl) (by kernel_rfl) (by kernel_rfl) (by kernel_rfl) (by kernel_rfl) ⟨⟨_,hW⟩,rfl⟩ ?_
      simp only [pickR,List.toList_toArray,List.flatMap_cons,List.flatMap_nil,List.drop_succ_cons,List.drop_zero,List.take_succ_cons,List.take_zero,List.cons_append,List.nil_append,List.append_nil]
      repeat go_big_quiet_step (fail)
      refine wpQuiet_nil ?_
      refine call_at 14 (some 88) 25 #[.agg #[.bool dh,.slice d1 dbs.length d4,.slice d2 drs.length d5,.slice d3 dds.length d6]] 33 (by kernel_rfl) (by kernel_rfl) (by kernel_rfl) (by kernel_rfl) (by kernel_rfl) ?_
      refine (hog _ (hGX.r.below hW) (instK.rd_below rd hW)).mono ?_
      rintro e w9 ⟨rfl,hb9⟩
      replace hW:=hW.trans (hb9.mono hW.size)
      clear hb9
      refine ⟨_,rfl,⟨⟨_,hW⟩,rfl⟩,?_⟩
      simp only [Act.put,List.setIfInBounds_toArray,List.set_cons_zero,List.set_cons_succ]
      refine quiet_at 15 (some 89) (.int .i64 0) 32 (by kernel_rfl) (by kernel_rfl) (by kernel_rfl) (by kernel_rfl) (by kernel_rfl) (fun u _=>by kernel_rfl) ⟨⟨_,hW⟩,rfl⟩ ?_
      simp only [Act.put,List.setIfInBounds_toArray,List.set_cons_zero,List.set_cons_succ]
      refine seg_range [(16,24),(42,2)] 6 (by kernel_rfl) (by kernel_rfl) (by kernel_rfl) (by kernel_rfl) (by kernel_rfl) ⟨⟨_,hW⟩,rfl⟩ ?_
      simp only [pickR,List.toList_toArray,List.flatMap_cons,List.flatMap_nil,List.drop_succ_cons,List.drop_zero,List.take_succ_cons,List.take_zero,List.cons_append,List.nil_append,List.append_nil]
      repeat go_big_quiet_step (fail)
      refine wpQuiet_nil ?_
      refine skip_at 40 (some 114) 5 (by kernel_rfl) (by kernel_rfl) (by kernel_rfl) (by kernel_rfl) (by kernel_rfl) ⟨⟨_,hW⟩,rfl⟩ ?_
      simp only [Act.put,List.setIfInBounds_toArray,List.set_cons_zero,List.set_cons_succ]
      refine skip_at 41 (some 115) 4 (by kernel_rfl) (by kernel_rfl) (by kernel_rfl) (by kernel_rfl) (by kernel_rfl) ⟨⟨_,hW⟩,rfl⟩ ?_
      simp only [Act.put,List.setIfInBounds_toArray,List.set_cons_zero,List.set_cons_succ]
      refine seg_range [(44,4)] 0 (by kernel_rfl) (by kernel_rfl) (by kernel_rfl) (by kernel_rfl) (by kernel_rfl) ⟨⟨_,hW⟩,rfl⟩ ?_
      simp only [pickR,List.toList_toArray,List.flatMap_cons,List.flatMap_nil,List.drop_succ_cons,List.drop_zero,List.take_succ_cons,List.take_zero,List.cons_append,List.nil_append,List.append_nil]
      repeat go_big_quiet_step (fail)
      refine wpQuiet_nil ?_
      refine text_end (by kernel_rfl) ?_
      replace hb:=hb.trans (hW.mono hb.size)
      go_wp2
      go_ret
      exact ⟨rfl,hb⟩

    ·have hd' : (D != 0)=true:=by simpa using hd
     clear HG hog0 hd
     have hW:Below X.heap.size X X.drew:=(Below.refl _ _).drew
     have hnn:Nonempty (Lat X):=⟨⟨X,Below.refl _ _⟩⟩
     have b80:=B8.lat 0 _ rfl
     have b81:=B8.lat 1 _ rfl
     have g90:=G9.lat 0 _ rfl
     have g92:=G9.lat 2 _ rfl
     have g94:=G9.lat 4 _ rfl
     have g95:=G9.lat 5 _ rfl
     have g96:=G9.lat 6 _ rfl
     have g97:=G9.lat 7 _ rfl
     have g98:=G9.lat 8 _ rfl
     have g100:=G10.lat 0 _ rfl
     have g105:=G10.lat 5 _ rfl
     have g106:=G10.lat 6 _ rfl
     have g107:=G10.lat 7 _ rfl
     have g108:=G10.lat 8 _ rfl
     refine text_begin (S:=fun w' => ∃ u:Lat X,w' = u.val) (by kernel_rfl) ?_
     refine seg_range [(0,6),(8,2)] 40 (by kernel_rfl) (by kernel_rfl) (by kernel_rfl) (by kernel_rfl) (by kernel_rfl) ⟨⟨_,hW⟩,rfl⟩ ?_
     simp only [pickR,List.toList_toArray,List.flatMap_cons,List.flatMap_nil,List.drop_succ_cons,List.drop_zero,List.take_succ_cons,List.take_zero,List.cons_append,List.nil_append,List.append_nil]
     repeat go_big_quiet_step (fail)
     refine wpQuiet_nil ?_
     refine skip_at 6 (some 80) 39 (by kernel_rfl) (by kernel_rfl) (by kernel_rfl) (by kernel_rfl) (by kernel_rfl) ⟨⟨_,hW⟩,rfl⟩ ?_
     simp only [Act.put,List.setIfInBounds_toArray,List.set_cons_zero,List.set_cons_succ]
     refine skip_at 7 (some 81) 38 (by kernel_rfl) (by kernel_rfl) (by kernel_rfl) (by kernel_rfl) (by kernel_rfl) ⟨⟨_,hW⟩,rfl⟩ ?_
     simp only [Act.put,List.setIfInBounds_toArray,List.set_cons_zero,List.set_cons_succ]
     refine seg_range [(10,4)] 34 (by kernel_rfl) (by kernel_rfl) (by kernel_rfl) (by kernel_rfl) (by kernel_rfl) ⟨⟨_,hW⟩,rfl⟩ ?_
     simp only [pickR,List.toList_toArray,List.flatMap_cons,List.flatMap_nil,List.drop_succ_cons,List.drop_zero,List.take_succ_cons,List.take_zero,List.cons_append,List.nil_append,List.append_nil]
     repeat go_big_quiet_step (fail)
     refine wpQuiet_nil ?_
     refine skip_at 14 (some 88) 33 (by kernel_rfl) (by kernel_rfl) (by kernel_rfl) (by kernel_rfl) (by kernel_rfl) ⟨⟨_,hW⟩,rfl⟩ ?_
     simp only [Act.put,List.setIfInBounds_toArray,List.set_cons_zero,List.set_cons_succ]
     refine skip_at 15 (some 89) 32 (by kernel_rfl) (by kernel_rfl) (by kernel_rfl) (by kernel_rfl) (by kernel_rfl) ⟨⟨_,hW⟩,rfl⟩ ?_
     simp only [Act.put,List.setIfInBounds_toArray,List.set_cons_zero,List.set_cons_succ]
     refine seg_range [(16,24),(42,2)] 6 (by kernel_rfl) (by kernel_rfl) (by kernel_rfl) (by kernel_rfl) (by kernel_rfl) ⟨⟨_,hW⟩,rfl⟩ ?_
     simp only [pickR,List.toList_toArray,List.flatMap_cons,List.flatMap_nil,List.drop_succ_cons,List.drop_zero,List.take_succ_cons,List.take_zero,List.cons_append,List.nil_append,List.append_nil]
     repeat go_big_quiet_step (fail)
     refine wpQuiet_nil ?_
     refine skip_at 40 (some 114) 5 (by kernel_rfl) (by kernel_rfl) (by kernel_rfl) (by kernel_rfl) (by kernel_rfl) ⟨⟨_,hW⟩,rfl⟩ ?_
     simp only [Act.put,List.setIfInBounds_toArray,List.set_cons_zero,List.set_cons_succ]
     refine skip_at 41 (some 115) 4 (by kernel_rfl) (by kernel_rfl) (by kernel_rfl) (by kernel_rfl) (by kernel_rfl) ⟨⟨_,hW⟩,rfl⟩ ?_
     simp only [Act.put,List.setIfInBounds_toArray,List.set_cons_zero,List.set_cons_succ]
     refine seg_range [(44,4)] 0 (by kernel_rfl) (by kernel_rfl) (by kernel_rfl) (by kernel_rfl) (by kernel_rfl) ⟨⟨_,hW⟩,rfl⟩ ?_
     simp only [pickR,List.toList_toArray,List.flatMap_cons,List.flatMap_nil,List.drop_succ_cons,List.drop_zero,List.take_succ_cons,List.take_zero,List.cons_append,List.nil_append,List.append_nil]
     repeat go_big_quiet_step (fail)
     refine wpQuiet_nil ?_
     refine text_end (by kernel_rfl) ?_
     replace hb:=hb.trans (hW.mono hb.size)
     go_wp2
     go_ret
     exact ⟨rfl,hb⟩
 ·have hd:decide (1048576 < (zs.length:Int))=true:=decide_eq_true (by omega)
  go_enter Tryz.func4,Tryz.ntmps4
  go_wp2_with fail
  refine (lwBig_any a zs.length cap w hm).mono ?_
  rintro e w1 ⟨rfl,hw⟩
  replace hw:=hw.symm
  subst hw
  rw [hd]
  go_wp2
  go_ret
  exact ⟨rfl,Below.refl _ _⟩

end Go.Proofs.YtpjmlidbligcbaaGreatDoor

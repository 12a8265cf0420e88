/- Texts joined, with what the laws reach alone. -/
import Derived.Test.YtpjmlidbligcbaaGreatDoorSSBE
set_option linter.unusedVariables false
set_option linter.unusedSimpArgs false
namespace Go.Proofs.YtpjmlidbligcbaaGreatDoor
open Go.RowKit
open Go.BigFrame
set_option maxRecDepth 100000
theorem same_refl {α:Type} {f:α→α→Bool} {g:List α→List α→Bool} (h0:g [] []=true) (h1:∀ x r y s,g (x :: r) (y :: s)=(f x y && g r s)) (hf:∀ x,f x x=true):∀ xs,g xs xs=true
 | []=>h0
 | x :: r=>by rw [h1,hf,same_refl h0 h1 hf r];rfl

theorem sameAs_refl (xs:List ActD):sameAs xs xs=true:=same_refl (f:=sameA) rfl (fun _ _ _ _=>rfl) (fun x=>by simp [sameA]) xs

theorem sameTs_refl (xs:List TxnD):sameTs xs xs=true:=same_refl (f:=sameT) rfl (fun _ _ _ _=>rfl) (fun x=>by simp [sameT,sameAs_refl]) xs

theorem sameZs_refl (xs:List Int):sameZs xs xs=true:=same_refl (f:=sameZ) rfl (fun _ _ _ _=>rfl) (fun x=>by simp [sameZ]) xs

theorem sameRs_refl (xs:List RoundE):sameRs xs xs=true:=same_refl (f:=sameR) rfl (fun _ _ _ _=>rfl) (fun x=>by simp [sameR,sameZs_refl]) xs

theorem sameI_refl (x:InstE):sameI x x=true:=by simp [sameI,sameTs_refl,sameRs_refl,sameZs_refl]

theorem eqCh_run (x0:Int) (x1 x2:Bool) (x3:Int) (w:World):(binOp .eql 32 (.agg #[.int .i64 x0,.bool x1,.bool x2,.int .i64 x3]) (.agg #[.int .i64 x0,.bool x1,.bool x2,.int .i64 x3])).run Tryz.prog w=.ok (.bool true) w:=by
 rw [run_eql_struct,run_equalIn_struct (P:=Tryz.prog) w 9999 32 _ _ (by kernel_rfl) (by kernel_rfl)]
 have c1:Tryz.prog.cellsOf 2=1:=by kernel_rfl
 have c2:Tryz.prog.cellsOf 4=1:=by kernel_rfl
 simp [Program.fieldsOf,Tryz.underlying32,Op.eqFields,go_sem,Tryz.underlying2,Tryz.underlying4,c1,c2]

theorem instE_n' (q:InstQ):q.n=InstE.n q.e:=by
 unfold InstE.n txnsN roundsN InstQ.e
 simp only [InstQ.n,List.length_map,nmL,List.map_map]
 rfl

theorem sm_of {q:InstQ} (h:insF (InstQ.e q)=0):q.n≤1048576:=by
 rw [instE_n']
 have:=ins_small h
 omega

theorem set_facts {x:InstE} {ds:List TxnD} (h:sbC x ds=0):insF (sbI x ds)=0∧(sbI x ds).batch=ds:=by
 refine ⟨ins_of (rgt_set h),?_⟩
 unfold sbI
 rw [if_pos h]

set_option maxRecDepth 100000 in
set_option maxHeartbeats 32000000 in
theorem instFn (a:Option Addr) (cap:Nat) (zs:List Int) (w:World) (hG:RulO w) (h:Row .u8 w a zs) (hu:∀ i,0≤zs.getD i 0∧zs.getD i 0≤255) (hm:zs.length≤9223372036854775807) :
  Calls Tryz.prog 3 #[.slice a zs.length cap] w fun e w' => e=.returned (.bool true)∧Below w.heap.size w w' := by
 by_cases hle:zs.length≤1048576
 ·have hd:decide (1048576 < (zs.length:Int))=false:=decide_eq_false (by omega)
  go_enter Tryz.func3,Tryz.ntmps3
  go_wp2_with fail
  refine (lwBig_any a zs.length cap w hm).mono ?_
  rintro e w1 ⟨rfl,hw⟩
  replace hw:=hw.symm
  subst hw
  rw [hd]
  clear hd
  go_wp2_with fail
  refine (drawSetBatch_any a cap zs _ h hu hle).mono ?_
  rintro e wa1 ⟨q,vn,bt,rfl,hn1,oq,hT,hnb,hh⟩
  have hb:=hh
  clear hh
  obtain ⟨xh,xb,xbs,xr,xrs,xd,xds⟩:=q
  obtain ⟨x1,x4,rfl⟩:∃ a c,xb=.slice a xbs.length c:=oq.1.shape
  obtain ⟨x2,x5,rfl⟩:∃ a c,xr=.slice a xrs.length c:=oq.2.1.shape
  obtain ⟨x3,x6,rfl⟩:∃ a c,xd=.slice a xds.length c:=oq.2.2.shape
  have A1:=Blk.new wa1 28 #[.bool xh,.slice x1 xbs.length x4,.slice x2 xrs.length x5,.slice x3 xds.length x6]
  have hbA:Below wa1.heap.size wa1 (wa1.alloc (.cells #[.bool xh,.slice x1 xbs.length x4,.slice x2 xrs.length x5,.slice x3 xds.length x6] 28)):=by go_grown
  have rx:=instK.own_rd oq
  clear oq
  replace rx:=instK.rd_below rx hbA
  replace hT:=hT.below hbA
  replace hb:=hb.trans (hbA.mono hb.size)
  clear hbA
  have hlx:InstQ.n (⟨xh,.slice x1 xbs.length x4,xbs,.slice x2 xrs.length x5,xrs,.slice x3 xds.length x6,xds⟩:InstQ)≤1048576:=by omega
  have hix:=fun w hG h hT=>implSetBatch_any (⟨xh,.slice x1 xbs.length x4,xbs,.slice x2 xrs.length x5,xrs,.slice x3 xds.length x6,xds⟩:InstQ) vn bt w hG h hlx hT (by omega)
  have hsx:=fun w h hT=>specSetBatch_any (⟨xh,.slice x1 xbs.length x4,xbs,.slice x2 xrs.length x5,xrs,.slice x3 xds.length x6,xds⟩:InstQ) vn bt w h hlx hT (by omega)
  have H1:Hid (sbC (InstQ.e (⟨xh,.slice x1 xbs.length x4,xbs,.slice x2 xrs.length x5,xrs,.slice x3 xds.length x6,xds⟩:InstQ)) (bt.map TxnQ.e)=0→insF (sbI (InstQ.e (⟨xh,.slice x1 xbs.length x4,xbs,.slice x2 xrs.length x5,xrs,.slice x3 xds.length x6,xds⟩:InstQ)) (bt.map TxnQ.e))=0∧(sbI (InstQ.e (⟨xh,.slice x1 xbs.length x4,xbs,.slice x2 xrs.length x5,xrs,.slice x3 xds.length x6,xds⟩:InstQ)) (bt.map TxnQ.e)).batch=bt.map TxnQ.e):=fun h0=>set_facts h0
  obtain ⟨vb,vc,rfl⟩:∃ a c,vn=.slice a bt.length c:=hT.shape
  dsimp only at hix hsx
  generalize sbC (InstQ.e (⟨xh,.slice x1 xbs.length x4,xbs,.slice x2 xrs.length x5,xrs,.slice x3 xds.length x6,xds⟩:InstQ)) (bt.map TxnQ.e)=D1 at *
  generalize sbI (InstQ.e (⟨xh,.slice x1 xbs.length x4,xbs,.slice x2 xrs.length x5,xrs,.slice x3 xds.length x6,xds⟩:InstQ)) (bt.map TxnQ.e)=I1 at *
  have p0:=A1.cell 0 _ rfl
  have p1:=A1.cell 1 _ rfl
  have p2:=A1.cell 2 _ rfl
  have p3:=A1.cell 3 _ rfl
  go_wp2_with fail
  clear p0 p1 p2 p3
  generalize wa1.alloc (.cells #[.bool xh,.slice x1 xbs.length x4,.slice x2 xrs.length x5,.slice x3 xds.length x6] 28)=WA1 at *
  refine (hix WA1 (hG.r.below hb) rx hT).mono ?_
  rintro e wb1 ⟨q,rfl,eS,oq,_,_,hh⟩
  replace A1:=A1.below hh
  replace rx:=instK.rd_below rx hh
  replace hT:=hT.below hh
  replace hb:=hb.trans (hh.mono hb.size)
  clear hh
  obtain ⟨Sh,Sb,Sbs,Sr,Srs,Sd,Sds⟩:=q
  obtain ⟨S1,S4,rfl⟩:∃ a c,Sb=.slice a Sbs.length c:=oq.1.shape
  obtain ⟨S2,S5,rfl⟩:∃ a c,Sr=.slice a Srs.length c:=oq.2.1.shape
  obtain ⟨S3,S6,rfl⟩:∃ a c,Sd=.slice a Sds.length c:=oq.2.2.shape
  have R1:=Blk.new wb1 34 #[.int .i64 D1,.int .i64 0,.bool false,.bool false,.int .i64 0,.bool Sh,.slice S1 Sbs.length S4,.slice S2 Srs.length S5,.slice S3 Sds.length S6]
  have hbA:Below wb1.heap.size wb1 (wb1.alloc (.cells #[.int .i64 D1,.int .i64 0,.bool false,.bool false,.int .i64 0,.bool Sh,.slice S1 Sbs.length S4,.slice S2 Srs.length S5,.slice S3 Sds.length S6] 34)):=by go_grown
  have rS:=instK.own_rd oq
  clear oq hix
  replace A1:=A1.below hbA
  replace rx:=instK.rd_below rx hbA
  replace rS:=instK.rd_below rS hbA
  replace hT:=hT.below hbA
  replace hb:=hb.trans (hbA.mono hb.size)
  clear hbA
  go_wp2_with fail
  generalize wb1.alloc (.cells #[.int .i64 D1,.int .i64 0,.bool false,.bool false,.int .i64 0,.bool Sh,.slice S1 Sbs.length S4,.slice S2 Srs.length S5,.slice S3 Sds.length S6] 34)=WB1 at *
  refine (drawFirstReport_any a cap zs _ (h.below hb) hu hle).mono ?_
  rintro e wa2 ⟨q,n2,v2,rfl,hn2,oq,_,hh⟩
  replace A1:=A1.below hh
  replace R1:=R1.below hh
  replace rx:=instK.rd_below rx hh
  replace rS:=instK.rd_below rS hh
  replace hT:=hT.below hh
  replace hb:=hb.trans (hh.mono hb.size)
  clear hh
  obtain ⟨yh,yb,ybs,yr,yrs,yd,yds⟩:=q
  obtain ⟨y1,y4,rfl⟩:∃ a c,yb=.slice a ybs.length c:=oq.1.shape
  obtain ⟨y2,y5,rfl⟩:∃ a c,yr=.slice a yrs.length c:=oq.2.1.shape
  obtain ⟨y3,y6,rfl⟩:∃ a c,yd=.slice a yds.length c:=oq.2.2.shape
  have A2:=Blk.new wa2 28 #[.bool yh,.slice y1 ybs.length y4,.slice y2 yrs.length y5,.slice y3 yds.length y6]
  have hbA:Below wa2.heap.size wa2 (wa2.alloc (.cells #[.bool yh,.slice y1 ybs.length y4,.slice y2 yrs.length y5,.slice y3 yds.length y6] 28)):=by go_grown
  have ry:=instK.own_rd oq
  clear oq
  replace A1:=A1.below hbA
  replace R1:=R1.below hbA
  replace rx:=instK.rd_below rx hbA
  replace rS:=instK.rd_below rS hbA
  replace ry:=instK.rd_below ry hbA
  replace hT:=hT.below hbA
  replace hb:=hb.trans (hbA.mono hb.size)
  clear hbA
  have hly:InstQ.n (⟨yh,.slice y1 ybs.length y4,ybs,.slice y2 yrs.length y5,yrs,.slice y3 yds.length y6,yds⟩:InstQ)≤1048576:=by omega
  have hiy:=fun w hG h=>implFirstReport_any (⟨yh,.slice y1 ybs.length y4,ybs,.slice y2 yrs.length y5,yrs,.slice y3 yds.length y6,yds⟩:InstQ) n2 v2 w hG h hly
  have hsy:=fun w h=>specFirstReport_any (⟨yh,.slice y1 ybs.length y4,ybs,.slice y2 yrs.length y5,yrs,.slice y3 yds.length y6,yds⟩:InstQ) n2 v2 w h hly
  have H2:Hid (frC (InstQ.e (⟨yh,.slice y1 ybs.length y4,ybs,.slice y2 yrs.length y5,yrs,.slice y3 yds.length y6,yds⟩:InstQ)) n2 v2=0→insF (frI (InstQ.e (⟨yh,.slice y1 ybs.length y4,ybs,.slice y2 yrs.length y5,yrs,.slice y3 yds.length y6,yds⟩:InstQ)) n2 v2)=0):=fun h0=>ins_first h0
  dsimp only at hiy hsy
  generalize frC (InstQ.e (⟨yh,.slice y1 ybs.length y4,ybs,.slice y2 yrs.length y5,yrs,.slice y3 yds.length y6,yds⟩:InstQ)) n2 v2=D2 at *
  generalize frI (InstQ.e (⟨yh,.slice y1 ybs.length y4,ybs,.slice y2 yrs.length y5,yrs,.slice y3 yds.length y6,yds⟩:InstQ)) n2 v2=I2 at *
  have p0:=A2.cell 0 _ rfl
  have p1:=A2.cell 1 _ rfl
  have p2:=A2.cell 2 _ rfl
  have p3:=A2.cell 3 _ rfl
  go_wp2_with fail
  clear p0 p1 p2 p3
  generalize wa2.alloc (.cells #[.bool yh,.slice y1 ybs.length y4,.slice y2 yrs.length y5,.slice y3 yds.length y6] 28)=WA2 at *
  refine (hiy WA2 (hG.below hb) ry).mono ?_
  rintro e wb2 ⟨q,rfl,eF,oq,_,_,hh⟩
  replace A1:=A1.below hh
  replace R1:=R1.below hh
  replace A2:=A2.below hh
  replace rx:=instK.rd_below rx hh
  replace rS:=instK.rd_below rS hh
  replace ry:=instK.rd_below ry hh
  replace hT:=hT.below hh
  replace hb:=hb.trans (hh.mono hb.size)
  clear hh
  obtain ⟨Fh,Fb,Fbs,Fr,Frs,Fd,Fds⟩:=q
  obtain ⟨F1,F4,rfl⟩:∃ a c,Fb=.slice a Fbs.length c:=oq.1.shape
  obtain ⟨F2,F5,rfl⟩:∃ a c,Fr=.slice a Frs.length c:=oq.2.1.shape
  obtain ⟨F3,F6,rfl⟩:∃ a c,Fd=.slice a Fds.length c:=oq.2.2.shape
  have R2:=Blk.new wb2 34 #[.int .i64 D2,.int .i64 0,.bool false,.bool false,.int .i64 0,.bool Fh,.slice F1 Fbs.length F4,.slice F2 Frs.length F5,.slice F3 Fds.length F6]
  have hbA:Below wb2.heap.size wb2 (wb2.alloc (.cells #[.int .i64 D2,.int .i64 0,.bool false,.bool false,.int .i64 0,.bool Fh,.slice F1 Fbs.length F4,.slice F2 Frs.length F5,.slice F3 Fds.length F6] 34)):=by go_grown
  have rF:=instK.own_rd oq
  clear oq hiy
  replace A1:=A1.below hbA
  replace R1:=R1.below hbA
  replace A2:=A2.below hbA
  replace rx:=instK.rd_below rx hbA
  replace rS:=instK.rd_below rS hbA
  replace ry:=instK.rd_below ry hbA
  replace rF:=instK.rd_below rF hbA
  replace hT:=hT.below hbA
  replace hb:=hb.trans (hbA.mono hb.size)
  clear hbA
  go_wp2_with fail
  generalize wb2.alloc (.cells #[.int .i64 D2,.int .i64 0,.bool false,.bool false,.int .i64 0,.bool Fh,.slice F1 Fbs.length F4,.slice F2 Frs.length F5,.slice F3 Fds.length F6] 34)=WB2 at *
  refine (drawPropose_any a cap zs _ (h.below hb) hu hle).mono ?_
  rintro e wa3 ⟨q,n3,r3,m3,rfl,hn3,oq,_,_,hh⟩
  replace A1:=A1.below hh
  replace R1:=R1.below hh
  replace A2:=A2.below hh
  replace R2:=R2.below hh
  replace rx:=instK.rd_below rx hh
  replace rS:=instK.rd_below rS hh
  replace ry:=instK.rd_below ry hh
  replace rF:=instK.rd_below rF hh
  replace hT:=hT.below hh
  replace hb:=hb.trans (hh.mono hb.size)
  clear hh
  obtain ⟨zh,zb,zbs,zr,zrs,zd,zds⟩:=q
  obtain ⟨z1,z4,rfl⟩:∃ a c,zb=.slice a zbs.length c:=oq.1.shape
  obtain ⟨z2,z5,rfl⟩:∃ a c,zr=.slice a zrs.length c:=oq.2.1.shape
  obtain ⟨z3,z6,rfl⟩:∃ a c,zd=.slice a zds.length c:=oq.2.2.shape
  have A3:=Blk.new wa3 28 #[.bool zh,.slice z1 zbs.length z4,.slice z2 zrs.length z5,.slice z3 zds.length z6]
  have hbA:Below wa3.heap.size wa3 (wa3.alloc (.cells #[.bool zh,.slice z1 zbs.length z4,.slice z2 zrs.length z5,.slice z3 zds.length z6] 28)):=by go_grown
  have rz:=instK.own_rd oq
  clear oq
  replace A1:=A1.below hbA
  replace R1:=R1.below hbA
  replace A2:=A2.below hbA
  replace R2:=R2.below hbA
  replace rx:=instK.rd_below rx hbA
  replace rS:=instK.rd_below rS hbA
  replace ry:=instK.rd_below ry hbA
  replace rF:=instK.rd_below rF hbA
  replace rz:=instK.rd_below rz hbA
  replace hT:=hT.below hbA
  replace hb:=hb.trans (hbA.mono hb.size)
  clear hbA
  have hlz:InstQ.n (⟨zh,.slice z1 zbs.length z4,zbs,.slice z2 zrs.length z5,zrs,.slice z3 zds.length z6,zds⟩:InstQ)≤1048576:=by omega
  have hiz:=fun w hG h=>implPropose_any (⟨zh,.slice z1 zbs.length z4,zbs,.slice z2 zrs.length z5,zrs,.slice z3 zds.length z6,zds⟩:InstQ) n3 r3 m3 w hG h hlz
  have hsz:=fun w h=>specPropose_any (⟨zh,.slice z1 zbs.length z4,zbs,.slice z2 zrs.length z5,zrs,.slice z3 zds.length z6,zds⟩:InstQ) n3 r3 m3 w h hlz
  have H3:Hid (prC (InstQ.e (⟨zh,.slice z1 zbs.length z4,zbs,.slice z2 zrs.length z5,zrs,.slice z3 zds.length z6,zds⟩:InstQ)) n3 r3 m3=0→insF (prI (InstQ.e (⟨zh,.slice z1 zbs.length z4,zbs,.slice z2 zrs.length z5,zrs,.slice z3 zds.length z6,zds⟩:InstQ)) n3 r3 m3)=0):=fun h0=>(ins_propose h0).1
  dsimp only at hiz hsz
  generalize prC (InstQ.e (⟨zh,.slice z1 zbs.length z4,zbs,.slice z2 zrs.length z5,zrs,.slice z3 zds.length z6,zds⟩:InstQ)) n3 r3 m3=D3 at *
  generalize prI (InstQ.e (⟨zh,.slice z1 zbs.length z4,zbs,.slice z2 zrs.length z5,zrs,.slice z3 zds.length z6,zds⟩:InstQ)) n3 r3 m3=I3 at *
  have p0:=A3.cell 0 _ rfl
  have p1:=A3.cell 1 _ rfl
  have p2:=A3.cell 2 _ rfl
  have p3:=A3.cell 3 _ rfl
  go_wp2_with fail
  clear p0 p1 p2 p3
  generalize wa3.alloc (.cells #[.bool zh,.slice z1 zbs.length z4,.slice z2 zrs.length z5,.slice z3 zds.length z6] 28)=WA3 at *
  refine (hiz WA3 (hG.r.below hb) rz).mono ?_
  rintro e wb3 ⟨q,rfl,eP,oq,_,_,hh⟩
  replace A1:=A1.below hh
  replace R1:=R1.below hh
  replace A2:=A2.below hh
  replace R2:=R2.below hh
  replace A3:=A3.below hh
  replace rx:=instK.rd_below rx hh
  replace rS:=instK.rd_below rS hh
  replace ry:=instK.rd_below ry hh
  replace rF:=instK.rd_below rF hh
  replace rz:=instK.rd_below rz hh
  replace hT:=hT.below hh
  replace hb:=hb.trans (hh.mono hb.size)
  clear hh
  obtain ⟨Ph,Pb,Pbs,Pr,Prs,Pd,Pds⟩:=q
  obtain ⟨P1,P4,rfl⟩:∃ a c,Pb=.slice a Pbs.length c:=oq.1.shape
  obtain ⟨P2,P5,rfl⟩:∃ a c,Pr=.slice a Prs.length c:=oq.2.1.shape
  obtain ⟨P3,P6,rfl⟩:∃ a c,Pd=.slice a Pds.length c:=oq.2.2.shape
  have R3:=Blk.new wb3 34 #[.int .i64 D3,.int .i64 0,.bool false,.bool false,.int .i64 0,.bool Ph,.slice P1 Pbs.length P4,.slice P2 Prs.length P5,.slice P3 Pds.length P6]
  have hbA:Below wb3.heap.size wb3 (wb3.alloc (.cells #[.int .i64 D3,.int .i64 0,.bool false,.bool false,.int .i64 0,.bool Ph,.slice P1 Pbs.length P4,.slice P2 Prs.length P5,.slice P3 Pds.length P6] 34)):=by go_grown
  have rP:=instK.own_rd oq
  clear oq hiz
  replace A1:=A1.below hbA
  replace R1:=R1.below hbA
  replace A2:=A2.below hbA
  replace R2:=R2.below hbA
  replace A3:=A3.below hbA
  replace rx:=instK.rd_below rx hbA
  replace rS:=instK.rd_below rS hbA
  replace ry:=instK.rd_below ry hbA
  replace rF:=instK.rd_below rF hbA
  replace rz:=instK.rd_below rz hbA
  replace rP:=instK.rd_below rP hbA
  replace hT:=hT.below hbA
  replace hb:=hb.trans (hbA.mono hb.size)
  clear hbA
  go_wp2_with fail
  generalize wb3.alloc (.cells #[.int .i64 D3,.int .i64 0,.bool false,.bool false,.int .i64 0,.bool Ph,.slice P1 Pbs.length P4,.slice P2 Prs.length P5,.slice P3 Pds.length P6] 34)=WB3 at *
  refine (drawGoOn_any a cap zs _ (h.below hb) hu hle).mono ?_
  rintro e wa4 ⟨q,n4,r4,m4,cn,rfl,hn4,oq,_,hh⟩
  replace A1:=A1.below hh
  replace R1:=R1.below hh
  replace A2:=A2.below hh
  replace R2:=R2.below hh
  replace A3:=A3.below hh
  replace R3:=R3.below hh
  replace rx:=instK.rd_below rx hh
  replace rS:=instK.rd_below rS hh
  replace ry:=instK.rd_below ry hh
  replace rF:=instK.rd_below rF hh
  replace rz:=instK.rd_below rz hh
  replace rP:=instK.rd_below rP hh
  replace hT:=hT.below hh
  replace hb:=hb.trans (hh.mono hb.size)
  clear hh
  obtain ⟨uh,ub,ubs,ur,urs,ud,uds⟩:=q
  obtain ⟨u1,u4,rfl⟩:∃ a c,ub=.slice a ubs.length c:=oq.1.shape
  obtain ⟨u2,u5,rfl⟩:∃ a c,ur=.slice a urs.length c:=oq.2.1.shape
  obtain ⟨u3,u6,rfl⟩:∃ a c,ud=.slice a uds.length c:=oq.2.2.shape
  have A4:=Blk.new wa4 28 #[.bool uh,.slice u1 ubs.length u4,.slice u2 urs.length u5,.slice u3 uds.length u6]
  have hbA:Below wa4.heap.size wa4 (wa4.alloc (.cells #[.bool uh,.slice u1 ubs.length u4,.slice u2 urs.length u5,.slice u3 uds.length u6] 28)):=by go_grown
  have ru:=instK.own_rd oq
  clear oq
  replace A1:=A1.below hbA
  replace R1:=R1.below hbA
  replace A2:=A2.below hbA
  replace R2:=R2.below hbA
  replace A3:=A3.below hbA
  replace R3:=R3.below hbA
  replace rx:=instK.rd_below rx hbA
  replace rS:=instK.rd_below rS hbA
  replace ry:=instK.rd_below ry hbA
  replace rF:=instK.rd_below rF hbA
  replace rz:=instK.rd_below rz hbA
  replace rP:=instK.rd_below rP hbA
  replace ru:=instK.rd_below ru hbA
  replace hT:=hT.below hbA
  replace hb:=hb.trans (hbA.mono hb.size)
  clear hbA
  have hlu:InstQ.n (⟨uh,.slice u1 ubs.length u4,ubs,.slice u2 urs.length u5,urs,.slice u3 uds.length u6,uds⟩:InstQ)≤1048576:=by omega
  have hiu:=fun w hG h=>implGoOn_any (⟨uh,.slice u1 ubs.length u4,ubs,.slice u2 urs.length u5,urs,.slice u3 uds.length u6,uds⟩:InstQ) n4 r4 m4 cn w hG h hlu
  have hsu:=fun w h=>specGoOn_any (⟨uh,.slice u1 ubs.length u4,ubs,.slice u2 urs.length u5,urs,.slice u3 uds.length u6,uds⟩:InstQ) n4 r4 m4 cn w h hlu
  have H4:Hid (goC (InstQ.e (⟨uh,.slice u1 ubs.length u4,ubs,.slice u2 urs.length u5,urs,.slice u3 uds.length u6,uds⟩:InstQ)) n4 r4 m4 cn=0→insF (goI (InstQ.e (⟨uh,.slice u1 ubs.length u4,ubs,.slice u2 urs.length u5,urs,.slice u3 uds.length u6,uds⟩:InstQ)) n4 r4 m4 cn)=0):=fun h0=>(ins_go h0).1
  dsimp only at hiu hsu
  generalize goC (InstQ.e (⟨uh,.slice u1 ubs.length u4,ubs,.slice u2 urs.length u5,urs,.slice u3 uds.length u6,uds⟩:InstQ)) n4 r4 m4 cn=D4 at *
  generalize goI (InstQ.e (⟨uh,.slice u1 ubs.length u4,ubs,.slice u2 urs.length u5,urs,.slice u3 uds.length u6,uds⟩:InstQ)) n4 r4 m4 cn=I4 at *
  generalize goZ (InstQ.e (⟨uh,.slice u1 ubs.length u4,ubs,.slice u2 urs.length u5,urs,.slice u3 uds.length u6,uds⟩:InstQ)) n4 r4 m4 cn=K0 at *
  generalize goD (InstQ.e (⟨uh,.slice u1 ubs.length u4,ubs,.slice u2 urs.length u5,urs,.slice u3 uds.length u6,uds⟩:InstQ)) n4 r4 m4 cn=K1 at *
  generalize goK (InstQ.e (⟨uh,.slice u1 ubs.length u4,ubs,.slice u2 urs.length u5,urs,.slice u3 uds.length u6,uds⟩:InstQ)) n4 r4 m4 cn=K2 at *
  generalize goV (InstQ.e (⟨uh,.slice u1 ubs.length u4,ubs,.slice u2 urs.length u5,urs,.slice u3 uds.length u6,uds⟩:InstQ)) n4 r4 m4 cn=K3 at *
  have p0:=A4.cell 0 _ rfl
  have p1:=A4.cell 1 _ rfl
  have p2:=A4.cell 2 _ rfl
  have p3:=A4.cell 3 _ rfl
  go_wp2_with fail
  clear p0 p1 p2 p3
  generalize wa4.alloc (.cells #[.bool uh,.slice u1 ubs.length u4,.slice u2 urs.length u5,.slice u3 uds.length u6] 28)=WA4 at *
  refine (hiu WA4 (hG.below hb) ru).mono ?_
  rintro e wb4 ⟨q,rfl,eG,oq,_,_,hh⟩
  replace A1:=A1.below hh
  replace R1:=R1.below hh
  replace A2:=A2.below hh
  replace R2:=R2.below hh
  replace A3:=A3.below hh
  replace R3:=R3.below hh
  replace A4:=A4.below hh
  replace rx:=instK.rd_below rx hh
  replace rS:=instK.rd_below rS hh
  replace ry:=instK.rd_below ry hh
  replace rF:=instK.rd_below rF hh
  replace rz:=instK.rd_below rz hh
  replace rP:=instK.rd_below rP hh
  replace ru:=instK.rd_below ru hh
  replace hT:=hT.below hh
  replace hb:=hb.trans (hh.mono hb.size)
  clear hh
  obtain ⟨Gh,Gb,Gbs,Gr,Grs,Gd,Gds⟩:=q
  obtain ⟨G1,G4,rfl⟩:∃ a c,Gb=.slice a Gbs.length c:=oq.1.shape
  obtain ⟨G2,G5,rfl⟩:∃ a c,Gr=.slice a Grs.length c:=oq.2.1.shape
  obtain ⟨G3,G6,rfl⟩:∃ a c,Gd=.slice a Gds.length c:=oq.2.2.shape
  have R4:=Blk.new wb4 34 #[.int .i64 D4,.int .i64 K0,.bool K1,.bool K2,.int .i64 K3,.bool Gh,.slice G1 Gbs.length G4,.slice G2 Grs.length G5,.slice G3 Gds.length G6]
  have hbA:Below wb4.heap.size wb4 (wb4.alloc (.cells #[.int .i64 D4,.int .i64 K0,.bool K1,.bool K2,.int .i64 K3,.bool Gh,.slice G1 Gbs.length G4,.slice G2 Grs.length G5,.slice G3 Gds.length G6] 34)):=by go_grown
  have rG:=instK.own_rd oq
  clear oq hiu
  replace A1:=A1.below hbA
  replace R1:=R1.below hbA
  replace A2:=A2.below hbA
  replace R2:=R2.below hbA
  replace A3:=A3.below hbA
  replace R3:=R3.below hbA
  replace A4:=A4.below hbA
  replace rx:=instK.rd_below rx hbA
  replace rS:=instK.rd_below rS hbA
  replace ry:=instK.rd_below ry hbA
  replace rF:=instK.rd_below rF hbA
  replace rz:=instK.rd_below rz hbA
  replace rP:=instK.rd_below rP hbA
  replace ru:=instK.rd_below ru hbA
  replace rG:=instK.rd_below rG hbA
  replace hT:=hT.below hbA
  replace hb:=hb.trans (hbA.mono hb.size)
  clear hbA
  go_wp2_with fail
  generalize wb4.alloc (.cells #[.int .i64 D4,.int .i64 K0,.bool K1,.bool K2,.int .i64 K3,.bool Gh,.slice G1 Gbs.length G4,.slice G2 Grs.length G5,.slice G3 Gds.length G6] 34)=X at *
  refine region_cut 67 57 (.bool false) (fun w' => Below X.heap.size X w') ?_ ?_
  ·try simp only [List.append_eq,List.cons_append,List.nil_append]
   clear A3 R3 A4 R4 H3 H4 rz rP ru rG eP eG hsz hsu hlz hlu hn3 hn4
   have hW:Below X.heap.size X X.drew:=(Below.refl _ _).drew
   have hnn:Nonempty (Lat X):=⟨⟨X,Below.refl _ _⟩⟩
   have hGX:=hG.below hb
   have a1_0:=A1.lat 0 _ rfl
   have a1_1:=A1.lat 1 _ rfl
   have a1_2:=A1.lat 2 _ rfl
   have a1_3:=A1.lat 3 _ rfl
   have r1_0:=R1.lat 0 _ rfl
   have r1_5:=R1.lat 5 _ rfl
   have r1_6:=R1.lat 6 _ rfl
   have r1_7:=R1.lat 7 _ rfl
   have r1_8:=R1.lat 8 _ rfl
   have a2_0:=A2.lat 0 _ rfl
   have a2_1:=A2.lat 1 _ rfl
   have a2_2:=A2.lat 2 _ rfl
   have a2_3:=A2.lat 3 _ rfl
   have r2_0:=R2.lat 0 _ rfl
   have r2_5:=R2.lat 5 _ rfl
   have r2_6:=R2.lat 6 _ rfl
   have r2_7:=R2.lat 7 _ rfl
   have r2_8:=R2.lat 8 _ rfl
   have t1:(D1 != D1)=false:=by simp
   have t2:(D2 != D2)=false:=by simp
   by_cases hd1:D1=0
   ·obtain ⟨hz1,hbS⟩:=H1.out hd1
    have hzS:insF (InstQ.e (⟨Sh,.slice S1 Sbs.length S4,Sbs,.slice S2 Srs.length S5,Srs,.slice S3 Sds.length S6,Sds⟩:InstQ))=0:=by rw [eS];exact hz1
    have hlRS:=sm_of hzS
    have hifS:∀ w (hG:Rul w) (h:instK.rd w (⟨Sh,.slice S1 Sbs.length S4,Sbs,.slice S2 Srs.length S5,Srs,.slice S3 Sds.length S6,Sds⟩:InstQ)),Calls Tryz.prog 18 #[.agg #[.bool Sh,.slice S1 Sbs.length S4,.slice S2 Srs.length S5,.slice S3 Sds.length S6]] w fun e w' => e=.returned (.int .i64 0)∧Below w.heap.size w w' := fun w hG h=>by
     have:=implInstanceFault_any (⟨Sh,.slice S1 Sbs.length S4,Sbs,.slice S2 Srs.length S5,Srs,.slice S3 Sds.length S6,Sds⟩:InstQ) w hG h hlRS
     rw [hzS] at this
     exact this
    have hstS:∀ w (h:TxnsAt w (.slice S1 Sbs.length S4) (Sbs.map TxnQ.e)) (h' : TxnsAt w (.slice vb bt.length vc) (bt.map TxnQ.e)),Calls Tryz.prog 19 #[.slice S1 Sbs.length S4,.slice vb bt.length vc] w fun e w' => e=.returned (.bool true)∧Below w.heap.size w w' := fun w h h' => by
     have hq:InstQ.n (⟨Sh,.slice S1 Sbs.length S4,Sbs,.slice S2 Srs.length S5,Srs,.slice S3 Sds.length S6,Sds⟩:InstQ)≤1048576:=hlRS
     dsimp only [InstQ.n] at hq
     have:=implSameTxns_any (.slice S1 Sbs.length S4) (.slice vb bt.length vc) (Sbs.map TxnQ.e) (bt.map TxnQ.e) w h h' (by rw [List.length_map,sumA_of'];omega) (by rw [List.length_map,sumA_of'];omega)
     have he:Sbs.map TxnQ.e=bt.map TxnQ.e:=by
      have h8:=congrArg InstE.batch eS
      rw [hbS] at h8
      exact h8
     rw [he,sameTs_refl] at this
     exact this
    subst hd1
    clear H1
    by_cases hd2:D2=0
    ·have hz2:=H2.out hd2
     have hzF:insF (InstQ.e (⟨Fh,.slice F1 Fbs.length F4,Fbs,.slice F2 Frs.length F5,Frs,.slice F3 Fds.length F6,Fds⟩:InstQ))=0:=by rw [eF];exact hz2
     have hlRF:=sm_of hzF
     have hifF:∀ w (hG:Rul w) (h:instK.rd w (⟨Fh,.slice F1 Fbs.length F4,Fbs,.slice F2 Frs.length F5,Frs,.slice F3 Fds.length F6,Fds⟩:InstQ)),Calls Tryz.prog 18 #[.agg #[.bool Fh,.slice F1 Fbs.length F4,.slice F2 Frs.length F5,.slice F3 Fds.length F6]] w fun e w' => e=.returned (.int .i64 0)∧Below w.heap.size w w' := fun w hG h=>by
      have:=implInstanceFault_any (⟨Fh,.slice F1 Fbs.length F4,Fbs,.slice F2 Frs.length F5,Frs,.slice F3 Fds.length F6,Fds⟩:InstQ) w hG h hlRF
      rw [hzF] at this
      exact this
     have hsiF:∀ q9:InstQ,q9.e=I2→∀ w (h:instK.rd w (⟨Fh,.slice F1 Fbs.length F4,Fbs,.slice F2 Frs.length F5,Frs,.slice F3 Fds.length F6,Fds⟩:InstQ)) (h' : instK.rd w q9),Calls Tryz.prog 21 #[.agg #[.bool Fh,.slice F1 Fbs.length F4,.slice F2 Frs.length F5,.slice F3 Fds.length F6],.agg #[.bool q9.has,q9.vb,q9.vr,q9.vd]] w fun e w' => e=.returned (.bool true)∧Below w.heap.size w w' := fun q9 h9 w h h' => by
      have h8:insF (InstQ.e q9)=0:=by rw [h9];exact hz2
      have:=implSameInst_any (⟨Fh,.slice F1 Fbs.length F4,Fbs,.slice F2 Frs.length F5,Frs,.slice F3 Fds.length F6,Fds⟩:InstQ) q9 w h h' hlRF (sm_of h8)
      rw [eF,h9,sameI_refl] at this
      exact this
     subst hd2
     clear H2
     as_aux_lemma=>
      refine text_begin (S:=fun w' => ∃ u:Lat X,w' = u.val) (by kernel_rfl) ?_
      refine seg_range [(0,4)] 54 (by kernel_rfl) (by kernel_rfl) (by kernel_rfl) (by kernel_rfl) (by kernel_rfl) ⟨⟨_,hW⟩,rfl⟩ ?_
      simp only [pickR,List.toList_toArray,List.flatMap_cons,List.flatMap_nil,List.drop_succ_cons,List.drop_zero,List.take_succ_cons,List.take_zero,List.cons_append,List.nil_append,List.append_nil]
      repeat go_big_quiet_step (fail)
      refine wpQuiet_nil ?_
      refine call_at 4 (some 71) 17 #[.agg #[.bool xh,.slice x1 xbs.length x4,.slice x2 xrs.length x5,.slice x3 xds.length x6],.slice vb bt.length vc] 53 (by kernel_rfl) (by kernel_rfl) (by kernel_rfl) (by kernel_rfl) (by kernel_rfl) ?_
      refine (hsx _ (instK.rd_below rx hW) (hT.below hW)).mono ?_
      rintro e w9 ⟨q8,rfl,_,_,_,_,hb9⟩
      replace hW:=hW.trans (hb9.mono hW.size)
      clear hb9
      refine ⟨_,rfl,⟨⟨_,hW⟩,rfl⟩,?_⟩
      simp only [Act.put,List.setIfInBounds_toArray,List.set_cons_zero,List.set_cons_succ]
      refine quiet_at 5 (some 72) (.int .i64 0) 52 (by kernel_rfl) (by kernel_rfl) (by kernel_rfl) (by kernel_rfl) (by kernel_rfl) (fun u _=>by kernel_rfl) ⟨⟨_,hW⟩,rfl⟩ ?_
      simp only [Act.put,List.setIfInBounds_toArray,List.set_cons_zero,List.set_cons_succ]
      refine seg_range [(6,8)] 44 (by kernel_rfl) (by kernel_rfl) (by kernel_rfl) (by kernel_rfl) (by kernel_rfl) ⟨⟨_,hW⟩,rfl⟩ ?_
      simp only [pickR,List.toList_toArray,List.flatMap_cons,List.flatMap_nil,List.drop_succ_cons,List.drop_zero,List.take_succ_cons,List.take_zero,List.cons_append,List.nil_append,List.append_nil]
      repeat go_big_quiet_step (fail)
      refine wpQuiet_nil ?_
      refine call_at 14 (some 81) 18 #[.agg #[.bool Sh,.slice S1 Sbs.length S4,.slice S2 Srs.length S5,.slice S3 Sds.length S6]] 43 (by kernel_rfl) (by kernel_rfl) (by kernel_rfl) (by kernel_rfl) (by kernel_rfl) ?_
      refine (hifS _ (hGX.r.below hW) (instK.rd_below rS hW)).mono ?_
      rintro e w9 ⟨rfl,hb9⟩
      replace hW:=hW.trans (hb9.mono hW.size)
      clear hb9
      refine ⟨_,rfl,⟨⟨_,hW⟩,rfl⟩,?_⟩
      simp only [Act.put,List.setIfInBounds_toArray,List.set_cons_zero,List.set_cons_succ]
      refine seg_range [(15,6)] 37 (by kernel_rfl) (by kernel_rfl) (by kernel_rfl) (by kernel_rfl) (by kernel_rfl) ⟨⟨_,hW⟩,rfl⟩ ?_
      simp only [pickR,List.toList_toArray,List.flatMap_cons,List.flatMap_nil,List.drop_succ_cons,List.drop_zero,List.take_succ_cons,List.take_zero,List.cons_append,List.nil_append,List.append_nil]
      repeat go_big_quiet_step (fail)
      refine wpQuiet_nil ?_
      refine call_at 21 (some 88) 19 #[.slice S1 Sbs.length S4,.slice vb bt.length vc] 36 (by kernel_rfl) (by kernel_rfl) (by kernel_rfl) (by kernel_rfl) (by kernel_rfl) ?_
      refine (hstS _ (txnsAt_of' ((show txnK.At _ _ _ from rS.1).below hW)) (txnsAt_of' (hT.below hW))).mono ?_
      rintro e w9 ⟨rfl,hb9⟩
      replace hW:=hW.trans (hb9.mono hW.size)
      clear hb9
      refine ⟨_,rfl,⟨⟨_,hW⟩,rfl⟩,?_⟩
      simp only [Act.put,List.setIfInBounds_toArray,List.set_cons_zero,List.set_cons_succ]
      refine seg_range [(22,10)] 26 (by kernel_rfl) (by kernel_rfl) (by kernel_rfl) (by kernel_rfl) (by kernel_rfl) ⟨⟨_,hW⟩,rfl⟩ ?_
      simp only [pickR,List.toList_toArray,List.flatMap_cons,List.flatMap_nil,List.drop_succ_cons,List.drop_zero,List.take_succ_cons,List.take_zero,List.cons_append,List.nil_append,List.append_nil]
      repeat go_big_quiet_step (fail)
      refine wpQuiet_nil ?_
      refine call_at 32 (some 99) 20 #[.agg #[.bool yh,.slice y1 ybs.length y4,.slice y2 yrs.length y5,.slice y3 yds.length y6],.int .i64 n2,.int .i64 v2] 25 (by kernel_rfl) (by kernel_rfl) (by kernel_rfl) (by kernel_rfl) (by kernel_rfl) ?_
      refine (hsy _ (instK.rd_below ry hW)).mono ?_
      rintro e w9 ⟨q8,rfl,_,_,_,_,hb9⟩
      replace hW:=hW.trans (hb9.mono hW.size)
      clear hb9
      refine ⟨_,rfl,⟨⟨_,hW⟩,rfl⟩,?_⟩
      simp only [Act.put,List.setIfInBounds_toArray,List.set_cons_zero,List.set_cons_succ]
      refine quiet_at 33 (some 100) (.int .i64 0) 24 (by kernel_rfl) (by kernel_rfl) (by kernel_rfl) (by kernel_rfl) (by kernel_rfl) (fun u _=>by kernel_rfl) ⟨⟨_,hW⟩,rfl⟩ ?_
      simp only [Act.put,List.setIfInBounds_toArray,List.set_cons_zero,List.set_cons_succ]
      refine seg_range [(34,9)] 15 (by kernel_rfl) (by kernel_rfl) (by kernel_rfl) (by kernel_rfl) (by kernel_rfl) ⟨⟨_,hW⟩,rfl⟩ ?_
      simp only [pickR,List.toList_toArray,List.flatMap_cons,List.flatMap_nil,List.drop_succ_cons,List.drop_zero,List.take_succ_cons,List.take_zero,List.cons_append,List.nil_append,List.append_nil]
      repeat go_big_quiet_step (fail)
      refine wpQuiet_nil ?_
      refine call_at 43 (some 110) 18 #[.agg #[.bool Fh,.slice F1 Fbs.length F4,.slice F2 Frs.length F5,.slice F3 Fds.length F6]] 14 (by kernel_rfl) (by kernel_rfl) (by kernel_rfl) (by kernel_rfl) (by kernel_rfl) ?_
      refine (hifF _ (hGX.r.below hW) (instK.rd_below rF hW)).mono ?_
      rintro e w9 ⟨rfl,hb9⟩
      replace hW:=hW.trans (hb9.mono hW.size)
      clear hb9
      refine ⟨_,rfl,⟨⟨_,hW⟩,rfl⟩,?_⟩
      simp only [Act.put,List.setIfInBounds_toArray,List.set_cons_zero,List.set_cons_succ]
      refine seg_range [(44,7)] 7 (by kernel_rfl) (by kernel_rfl) (by kernel_rfl) (by kernel_rfl) (by kernel_rfl) ⟨⟨_,hW⟩,rfl⟩ ?_
      simp only [pickR,List.toList_toArray,List.flatMap_cons,List.flatMap_nil,List.drop_succ_cons,List.drop_zero,List.take_succ_cons,List.take_zero,List.cons_append,List.nil_append,List.append_nil]
      repeat go_big_quiet_step (fail)
      refine wpQuiet_nil ?_
      refine call_at 51 (some 118) 20 #[.agg #[.bool yh,.slice y1 ybs.length y4,.slice y2 yrs.length y5,.slice y3 yds.length y6],.int .i64 n2,.int .i64 v2] 6 (by kernel_rfl) (by kernel_rfl) (by kernel_rfl) (by kernel_rfl) (by kernel_rfl) ?_
      refine (hsy _ (instK.rd_below ry hW)).mono ?_
      rintro e w9 ⟨q9,rfl,e9,o9,_,_,hb9⟩
      replace hW:=hW.trans (hb9.mono hW.size)
      have r9:=instK.own_rd o9
      clear hb9
      refine ⟨_,rfl,⟨⟨_,hW⟩,rfl⟩,?_⟩
      simp only [Act.put,List.setIfInBounds_toArray,List.set_cons_zero,List.set_cons_succ]
      refine quiet_at 52 (some 119) (.agg #[.bool q9.has,q9.vb,q9.vr,q9.vd]) 5 (by kernel_rfl) (by kernel_rfl) (by kernel_rfl) (by kernel_rfl) (by kernel_rfl) (fun u _=>by kernel_rfl) ⟨⟨_,hW⟩,rfl⟩ ?_
      simp only [Act.put,List.setIfInBounds_toArray,List.set_cons_zero,List.set_cons_succ]
      refine call_at 53 (some 120) 21 #[.agg #[.bool Fh,.slice F1 Fbs.length F4,.slice F2 Frs.length F5,.slice F3 Fds.length F6],.agg #[.bool q9.has,q9.vb,q9.vr,q9.vd]] 4 (by kernel_rfl) (by kernel_rfl) (by kernel_rfl) (by kernel_rfl) (by kernel_rfl) ?_
      refine (hsiF q9 e9 _ (instK.rd_below rF hW) r9).mono ?_
      rintro e w9 ⟨rfl,hb9⟩
      replace hW:=hW.trans (hb9.mono hW.size)
      clear hb9
      refine ⟨_,rfl,⟨⟨_,hW⟩,rfl⟩,?_⟩
      simp only [Act.put,List.setIfInBounds_toArray,List.set_cons_zero,List.set_cons_succ]
      refine seg_range [(54,4)] 0 (by kernel_rfl) (by kernel_rfl) (by kernel_rfl) (by kernel_rfl) (by kernel_rfl) ⟨⟨_,hW⟩,rfl⟩ ?_
      simp only [pickR,List.toList_toArray,List.flatMap_cons,List.flatMap_nil,List.drop_succ_cons,List.drop_zero,List.take_succ_cons,List.take_zero,List.cons_append,List.nil_append,List.append_nil]
      repeat go_big_quiet_step (fail)
      refine wpQuiet_nil ?_
      refine text_end (by kernel_rfl) ?_
      exact CutQ.mk rfl rfl rfl (Nat.le_of_ble_eq_true (by kernel_rfl)) hW
    ·have hd2' : (D2 == 0)=false:=by simpa using hd2
     clear H2 hd2
     as_aux_lemma=>
      refine text_begin (S:=fun w' => ∃ u:Lat X,w' = u.val) (by kernel_rfl) ?_
      refine seg_range [(0,4)] 54 (by kernel_rfl) (by kernel_rfl) (by kernel_rfl) (by kernel_rfl) (by kernel_rfl) ⟨⟨_,hW⟩,rfl⟩ ?_
      simp only [pickR,List.toList_toArray,List.flatMap_cons,List.flatMap_nil,List.drop_succ_cons,List.drop_zero,List.take_succ_cons,List.take_zero,List.cons_append,List.nil_append,List.append_nil]
      repeat go_big_quiet_step (fail)
      refine wpQuiet_nil ?_
      refine call_at 4 (some 71) 17 #[.agg #[.bool xh,.slice x1 xbs.length x4,.slice x2 xrs.length x5,.slice x3 xds.length x6],.slice vb bt.length vc] 53 (by kernel_rfl) (by kernel_rfl) (by kernel_rfl) (by kernel_rfl) (by kernel_rfl) ?_
      refine (hsx _ (instK.rd_below rx hW) (hT.below hW)).mono ?_
      rintro e w9 ⟨q8,rfl,_,_,_,_,hb9⟩
      replace hW:=hW.trans (hb9.mono hW.size)
      clear hb9
      refine ⟨_,rfl,⟨⟨_,hW⟩,rfl⟩,?_⟩
      simp only [Act.put,List.setIfInBounds_toArray,List.set_cons_zero,List.set_cons_succ]
      refine quiet_at 5 (some 72) (.int .i64 0) 52 (by kernel_rfl) (by kernel_rfl) (by kernel_rfl) (by kernel_rfl) (by kernel_rfl) (fun u _=>by kernel_rfl) ⟨⟨_,hW⟩,rfl⟩ ?_
      simp only [Act.put,List.setIfInBounds_toArray,List.set_cons_zero,List.set_cons_succ]
      refine seg_range [(6,8)] 44 (by kernel_rfl) (by kernel_rfl) (by kernel_rfl) (by kernel_rfl) (by kernel_rfl) ⟨⟨_,hW⟩,rfl⟩ ?_
      simp only [pickR,List.toList_toArray,List.flatMap_cons,List.flatMap_nil,List.drop_succ_cons,List.drop_zero,List.take_succ_cons,List.take_zero,List.cons_append,List.nil_append,List.append_nil]
      repeat go_big_quiet_step (fail)
      refine wpQuiet_nil ?_
      refine call_at 14 (some 81) 18 #[.agg #[.bool Sh,.slice S1 Sbs.length S4,.slice S2 Srs.length S5,.slice S3 Sds.length S6]] 43 (by kernel_rfl) (by kernel_rfl) (by kernel_rfl) (by kernel_rfl) (by kernel_rfl) ?_
      refine (hifS _ (hGX.r.below hW) (instK.rd_below rS hW)).mono ?_
      rintro e w9 ⟨rfl,hb9⟩
      replace hW:=hW.trans (hb9.mono hW.size)
      clear hb9
      refine ⟨_,rfl,⟨⟨_,hW⟩,rfl⟩,?_⟩
      simp only [Act.put,List.setIfInBounds_toArray,List.set_cons_zero,List.set_cons_succ]
      refine seg_range [(15,6)] 37 (by kernel_rfl) (by kernel_rfl) (by kernel_rfl) (by kernel_rfl) (by kernel_rfl) ⟨⟨_,hW⟩,rfl⟩ ?_
      simp only [pickR,List.toList_toArray,List.flatMap_cons,List.flatMap_nil,List.drop_succ_cons,List.drop_zero,List.take_succ_cons,List.take_zero,List.cons_append,List.nil_append,List.append_nil]
      repeat go_big_quiet_step (fail)
      refine wpQuiet_nil ?_
      refine call_at 21 (some 88) 19 #[.slice S1 Sbs.length S4,.slice vb bt.length vc] 36 (by kernel_rfl) (by kernel_rfl) (by kernel_rfl) (by kernel_rfl) (by kernel_rfl) ?_
      refine (hstS _ (txnsAt_of' ((show txnK.At _ _ _ from rS.1).below hW)) (txnsAt_of' (hT.below hW))).mono ?_
      rintro e w9 ⟨rfl,hb9⟩
      replace hW:=hW.trans (hb9.mono hW.size)
      clear hb9
      refine ⟨_,rfl,⟨⟨_,hW⟩,rfl⟩,?_⟩
      simp only [Act.put,List.setIfInBounds_toArray,List.set_cons_zero,List.set_cons_succ]
      refine seg_range [(22,10)] 26 (by kernel_rfl) (by kernel_rfl) (by kernel_rfl) (by kernel_rfl) (by kernel_rfl) ⟨⟨_,hW⟩,rfl⟩ ?_
      simp only [pickR,List.toList_toArray,List.flatMap_cons,List.flatMap_nil,List.drop_succ_cons,List.drop_zero,List.take_succ_cons,List.take_zero,List.cons_append,List.nil_append,List.append_nil]
      repeat go_big_quiet_step (fail)
      refine wpQuiet_nil ?_
      refine call_at 32 (some 99) 20 #[.agg #[.bool yh,.slice y1 ybs.length y4,.slice y2 yrs.length y5,.slice y3 yds.length y6],.int .i64 n2,.int .i64 v2] 25 (by kernel_rfl) (by kernel_rfl) (by kernel_rfl) (by kernel_rfl) (by kernel_rfl) ?_
      refine (hsy _ (instK.rd_below ry hW)).mono ?_
      rintro e w9 ⟨q8,rfl,_,_,_,_,hb9⟩
      replace hW:=hW.trans (hb9.mono hW.size)
      clear hb9
      refine ⟨_,rfl,⟨⟨_,hW⟩,rfl⟩,?_⟩
      simp only [Act.put,List.setIfInBounds_toArray,List.set_cons_zero,List.set_cons_succ]
      refine quiet_at 33 (some 100) (.int .i64 D2) 24 (by kernel_rfl) (by kernel_rfl) (by kernel_rfl) (by kernel_rfl) (by kernel_rfl) (fun u _=>by kernel_rfl) ⟨⟨_,hW⟩,rfl⟩ ?_
      simp only [Act.put,List.setIfInBounds_toArray,List.set_cons_zero,List.set_cons_succ]
      refine seg_range [(34,9)] 15 (by kernel_rfl) (by kernel_rfl) (by kernel_rfl) (by kernel_rfl) (by kernel_rfl) ⟨⟨_,hW⟩,rfl⟩ ?_
      simp only [pickR,List.toList_toArray,List.flatMap_cons,List.flatMap_nil,List.drop_succ_cons,List.drop_zero,List.take_succ_cons,List.take_zero,List.cons_append,List.nil_append,List.append_nil]
      repeat go_big_quiet_step (fail)
      refine wpQuiet_nil ?_
      refine skip_at 43 (some 110) 14 (by kernel_rfl) (by kernel_rfl) (by kernel_rfl) (by kernel_rfl) (by kernel_rfl) ⟨⟨_,hW⟩,rfl⟩ ?_
      simp only [Act.put,List.setIfInBounds_toArray,List.set_cons_zero,List.set_cons_succ]
      refine seg_range [(44,7)] 7 (by kernel_rfl) (by kernel_rfl) (by kernel_rfl) (by kernel_rfl) (by kernel_rfl) ⟨⟨_,hW⟩,rfl⟩ ?_
      simp only [pickR,List.toList_toArray,List.flatMap_cons,List.flatMap_nil,List.drop_succ_cons,List.drop_zero,List.take_succ_cons,List.take_zero,List.cons_append,List.nil_append,List.append_nil]
      repeat go_big_quiet_step (fail)
      refine wpQuiet_nil ?_
      refine skip_at 51 (some 118) 6 (by kernel_rfl) (by kernel_rfl) (by kernel_rfl) (by kernel_rfl) (by kernel_rfl) ⟨⟨_,hW⟩,rfl⟩ ?_
      simp only [Act.put,List.setIfInBounds_toArray,List.set_cons_zero,List.set_cons_succ]
      refine skip_at 52 (some 119) 5 (by kernel_rfl) (by kernel_rfl) (by kernel_rfl) (by kernel_rfl) (by kernel_rfl) ⟨⟨_,hW⟩,rfl⟩ ?_
      simp only [Act.put,List.setIfInBounds_toArray,List.set_cons_zero,List.set_cons_succ]
      refine skip_at 53 (some 120) 4 (by kernel_rfl) (by kernel_rfl) (by kernel_rfl) (by kernel_rfl) (by kernel_rfl) ⟨⟨_,hW⟩,rfl⟩ ?_
      simp only [Act.put,List.setIfInBounds_toArray,List.set_cons_zero,List.set_cons_succ]
      refine seg_range [(54,4)] 0 (by kernel_rfl) (by kernel_rfl) (by kernel_rfl) (by kernel_rfl) (by kernel_rfl) ⟨⟨_,hW⟩,rfl⟩ ?_
      simp only [pickR,List.toList_toArray,List.flatMap_cons,List.flatMap_nil,List.drop_succ_cons,List.drop_zero,List.take_succ_cons,List.take_zero,List.cons_append,List.nil_append,List.append_nil]
      repeat go_big_quiet_step (fail)
      refine wpQuiet_nil ?_
      refine text_end (by kernel_rfl) ?_
      exact CutQ.mk rfl rfl rfl (Nat.le_of_ble_eq_true (by kernel_rfl)) hW
   ·have hd1' : (D1 == 0)=false:=by simpa using hd1
    clear H1 hd1
    by_cases hd2:D2=0
    ·have hz2:=H2.out hd2
     have hzF:insF (InstQ.e (⟨Fh,.slice F1 Fbs.length F4,Fbs,.slice F2 Frs.length F5,Frs,.slice F3 Fds.length F6,Fds⟩:InstQ))=0:=by rw [eF];exact hz2
     have hlRF:=sm_of hzF
     have hifF:∀ w (hG:Rul w) (h:instK.rd w (⟨Fh,.slice F1 Fbs.length F4,Fbs,.slice F2 Frs.length F5,Frs,.slice F3 Fds.length F6,Fds⟩:InstQ)),Calls Tryz.prog 18 #[.agg #[.bool Fh,.slice F1 Fbs.length F4,.slice F2 Frs.length F5,.slice F3 Fds.length F6]] w fun e w' => e=.returned (.int .i64 0)∧Below w.heap.size w w' := fun w hG h=>by
      have:=implInstanceFault_any (⟨Fh,.slice F1 Fbs.length F4,Fbs,.slice F2 Frs.length F5,Frs,.slice F3 Fds.length F6,Fds⟩:InstQ) w hG h hlRF
      rw [hzF] at this
      exact this
     have hsiF:∀ q9:InstQ,q9.e=I2→∀ w (h:instK.rd w (⟨Fh,.slice F1 Fbs.length F4,Fbs,.slice F2 Frs.length F5,Frs,.slice F3 Fds.length F6,Fds⟩:InstQ)) (h' : instK.rd w q9),Calls Tryz.prog 21 #[.agg #[.bool Fh,.slice F1 Fbs.length F4,.slice F2 Frs.length F5,.slice F3 Fds.length F6],.agg #[.bool q9.has,q9.vb,q9.vr,q9.vd]] w fun e w' => e=.returned (.bool true)∧Below w.heap.size w w' := fun q9 h9 w h h' => by
      have h8:insF (InstQ.e q9)=0:=by rw [h9];exact hz2
      have:=implSameInst_any (⟨Fh,.slice F1 Fbs.length F4,Fbs,.slice F2 Frs.length F5,Frs,.slice F3 Fds.length F6,Fds⟩:InstQ) q9 w h h' hlRF (sm_of h8)
      rw [eF,h9,sameI_refl] at this
      exact this
     subst hd2
     clear H2
     as_aux_lemma=>
      refine text_begin (S:=fun w' => ∃ u:Lat X,w' = u.val) (by kernel_rfl) ?_
      refine seg_range [(0,4)] 54 (by kernel_rfl) (by kernel_rfl) (by kernel_rfl) (by kernel_rfl) (by kernel_rfl) ⟨⟨_,hW⟩,rfl⟩ ?_
      simp only [pickR,List.toList_toArray,List.flatMap_cons,List.flatMap_nil,List.drop_succ_cons,List.drop_zero,List.take_succ_cons,List.take_zero,List.cons_append,List.nil_append,List.append_nil]
      repeat go_big_quiet_step (fail)
      refine wpQuiet_nil ?_
      refine call_at 4 (some 71) 17 #[.agg #[.bool xh,.slice x1 xbs.length x4,.slice x2 xrs.length x5,.slice x3 xds.length x6],.slice vb bt.length vc] 53 (by kernel_rfl) (by kernel_rfl) (by kernel_rfl) (by kernel_rfl) (by kernel_rfl) ?_
      refine (hsx _ (instK.rd_below rx hW) (hT.below hW)).mono ?_
      rintro e w9 ⟨q8,rfl,_,_,_,_,hb9⟩
      replace hW:=hW.trans (hb9.mono hW.size)
      clear hb9
      refine ⟨_,rfl,⟨⟨_,hW⟩,rfl⟩,?_⟩
      simp only [Act.put,List.setIfInBounds_toArray,List.set_cons_zero,List.set_cons_succ]
      refine quiet_at 5 (some 72) (.int .i64 D1) 52 (by kernel_rfl) (by kernel_rfl) (by kernel_rfl) (by kernel_rfl) (by kernel_rfl) (fun u _=>by kernel_rfl) ⟨⟨_,hW⟩,rfl⟩ ?_
      simp only [Act.put,List.setIfInBounds_toArray,List.set_cons_zero,List.set_cons_succ]
      refine seg_range [(6,8)] 44 (by kernel_rfl) (by kernel_rfl) (by kernel_rfl) (by kernel_rfl) (by kernel_rfl) ⟨⟨_,hW⟩,rfl⟩ ?_
      simp only [pickR,List.toList_toArray,List.flatMap_cons,List.flatMap_nil,List.drop_succ_cons,List.drop_zero,List.take_succ_cons,List.take_zero,List.cons_append,List.nil_append,List.append_nil]
      repeat go_big_quiet_step (fail)
      refine wpQuiet_nil ?_
      refine skip_at 14 (some 81) 43 (by kernel_rfl) (by kernel_rfl) (by kernel_rfl) (by kernel_rfl) (by kernel_rfl) ⟨⟨_,hW⟩,rfl⟩ ?_
      simp only [Act.put,List.setIfInBounds_toArray,List.set_cons_zero,List.set_cons_succ]
      refine seg_range [(15,6)] 37 (by kernel_rfl) (by kernel_rfl) (by kernel_rfl) (by kernel_rfl) (by kernel_rfl) ⟨⟨_,hW⟩,rfl⟩ ?_
      simp only [pickR,List.toList_toArray,List.flatMap_cons,List.flatMap_nil,List.drop_succ_cons,List.drop_zero,List.take_succ_cons,List.take_zero,List.cons_append,List.nil_append,List.append_nil]
      repeat go_big_quiet_step (fail)
      refine wpQuiet_nil ?_
      refine skip_at 21 (some 88) 36 (by kernel_rfl) (by kernel_rfl) (by kernel_rfl) (by kernel_rfl) (by kernel_rfl) ⟨⟨_,hW⟩,rfl⟩ ?_
      simp only [Act.put,List.setIfInBounds_toArray,List.set_cons_zero,List.set_cons_succ]
      refine seg_range [(22,10)] 26 (by kernel_rfl) (by kernel_rfl) (by kernel_rfl) (by kernel_rfl) (by kernel_rfl) ⟨⟨_,hW⟩,rfl⟩ ?_
      simp only [pickR,List.toList_toArray,List.flatMap_cons,List.flatMap_nil,List.drop_succ_cons,List.drop_zero,List.take_succ_cons,List.take_zero,List.cons_append,List.nil_append,List.append_nil]
      repeat go_big_quiet_step (fail)
      refine wpQuiet_nil ?_
      refine call_at 32 (some 99) 20 #[.agg #[.bool yh,.slice y1 ybs.length y4,.slice y2 yrs.length y5,.slice y3 yds.length y6],.int .i64 n2,.int .i64 v2] 25 (by kernel_rfl) (by kernel_rfl) (by kernel_rfl) (by kernel_rfl) (by kernel_rfl) ?_
      refine (hsy _ (instK.rd_below ry hW)).mono ?_
      rintro e w9 ⟨q8,rfl,_,_,_,_,hb9⟩
      replace hW:=hW.trans (hb9.mono hW.size)
      clear hb9
      refine ⟨_,rfl,⟨⟨_,hW⟩,rfl⟩,?_⟩
      simp only [Act.put,List.setIfInBounds_toArray,List.set_cons_zero,List.set_cons_succ]
      refine quiet_at 33 (some 100) (.int .i64 0) 24 (by kernel_rfl) (by kernel_rfl) (by kernel_rfl) (by kernel_rfl) (by kernel_rfl) (fun u _=>by kernel_rfl) ⟨⟨_,hW⟩,rfl⟩ ?_
      simp only [Act.put,List.setIfInBounds_toArray,List.set_cons_zero,List.set_cons_succ]
      refine seg_range [(34,9)] 15 (by kernel_rfl) (by kernel_rfl) (by kernel_rfl) (by kernel_rfl) (by kernel_rfl) ⟨⟨_,hW⟩,rfl⟩ ?_
      simp only [pickR,List.toList_toArray,List.flatMap_cons,List.flatMap_nil,List.drop_succ_cons,List.drop_zero,List.take_succ_cons,List.take_zero,List.cons_append,List.nil_append,List.append_nil]
      repeat go_big_quiet_step (fail)
      refine wpQuiet_nil ?_
      refine call_at 43 (some 110) 18 #[.agg #[.bool Fh,.slice F1 Fbs.length F4,.slice F2 Frs.length F5,.slice F3 Fds.length F6]] 14 (by kernel_rfl) (by kernel_rfl) (by kernel_rfl) (by kernel_rfl) (by kernel_rfl) ?_
      refine (hifF _ (hGX.r.below hW) (instK.rd_below rF hW)).mono ?_
      rintro e w9 ⟨rfl,hb9⟩
      replace hW:=hW.trans (hb9.mono hW.size)
      clear hb9
      refine ⟨_,rfl,⟨⟨_,hW⟩,rfl⟩,?_⟩
      simp only [Act.put,List.setIfInBounds_toArray,List.set_cons_zero,List.set_cons_succ]
      refine seg_range [(44,7)] 7 (by kernel_rfl) (by kernel_rfl) (by kernel_rfl) (by kernel_rfl) (by kernel_rfl) ⟨⟨_,hW⟩,rfl⟩ ?_
      simp only [pickR,List.toList_toArray,List.flatMap_cons,List.flatMap_nil,List.drop_succ_cons,List.drop_zero,List.take_succ_cons,List.take_zero,List.cons_append,List.nil_append,List.append_nil]
      repeat go_big_quiet_step (fail)
      refine wpQuiet_nil ?_
      refine call_at 51 (some 118) 20 #[.agg #[.bool yh,.slice y1 ybs.length y4,.slice y2 yrs.length y5,.slice y3 yds.length y6],.int .i64 n2,.int .i64 v2] 6 (by kernel_rfl) (by kernel_rfl) (by kernel_rfl) (by kernel_rfl) (by kernel_rfl) ?_
      refine (hsy _ (instK.rd_below ry hW)).mono ?_
      rintro e w9 ⟨q9,rfl,e9,o9,_,_,hb9⟩
      replace hW:=hW.trans (hb9.mono hW.size)
      have r9:=instK.own_rd o9
      clear hb9
      refine ⟨_,rfl,⟨⟨_,hW⟩,rfl⟩,?_⟩
      simp only [Act.put,List.setIfInBounds_toArray,List.set_cons_zero,List.set_cons_succ]
      refine quiet_at 52 (some 119) (.agg #[.bool q9.has,q9.vb,q9.vr,q9.vd]) 5 (by kernel_rfl) (by kernel_rfl) (by kernel_rfl) (by kernel_rfl) (by kernel_rfl) (fun u _=>by kernel_rfl) ⟨⟨_,hW⟩,rfl⟩ ?_
      simp only [Act.put,List.setIfInBounds_toArray,List.set_cons_zero,List.set_cons_succ]
      refine call_at 53 (some 120) 21 #[.agg #[.bool Fh,.slice F1 Fbs.length F4,.slice F2 Frs.length F5,.slice F3 Fds.length F6],.agg #[.bool q9.has,q9.vb,q9.vr,q9.vd]] 4 (by kernel_rfl) (by kernel_rfl) (by kernel_rfl) (by kernel_rfl) (by kernel_rfl) ?_
      refine (hsiF q9 e9 _ (instK.rd_below rF hW) r9).mono ?_
      rintro e w9 ⟨rfl,hb9⟩
      replace hW:=hW.trans (hb9.mono hW.size)
      clear hb9
      refine ⟨_,rfl,⟨⟨_,hW⟩,rfl⟩,?_⟩
      simp only [Act.put,List.setIfInBounds_toArray,List.set_cons_zero,List.set_cons_succ]
      refine seg_range [(54,4)] 0 (by kernel_rfl) (by kernel_rfl) (by kernel_rfl) (by kernel_rfl) (by kernel_rfl) ⟨⟨_,hW⟩,rfl⟩ ?_
      simp only [pickR,List.toList_toArray,List.flatMap_cons,List.flatMap_nil,List.drop_succ_cons,List.drop_zero,List.take_succ_cons,List.take_zero,List.cons_append,List.nil_append,List.append_nil]
      repeat go_big_quiet_step (fail)
      refine wpQuiet_nil ?_
      refine text_end (by kernel_rfl) ?_
      exact CutQ.mk rfl rfl rfl (Nat.le_of_ble_eq_true (by kernel_rfl)) hW
    ·have hd2' : (D2 == 0)=false:=by simpa using hd2
     clear H2 hd2
     as_aux_lemma=>
      refine text_begin (S:=fun w' => ∃ u:Lat X,w' = u.val) (by kernel_rfl) ?_
      refine seg_range [(0,4)] 54 (by kernel_rfl) (by kernel_rfl) (by kernel_rfl) (by kernel_rfl) (by kernel_rfl) ⟨⟨_,hW⟩,rfl⟩ ?_
      simp only [pickR,List.toList_toArray,List.flatMap_cons,List.flatMap_nil,List.drop_succ_cons,List.drop_zero,List.take_succ_cons,List.take_zero,List.cons_append,List.nil_append,List.append_nil]
      repeat go_big_quiet_step (fail)
      refine wpQuiet_nil ?_
      refine call_at 4 (some 71) 17 #[.agg #[.bool xh,.slice x1 xbs.length x4,.slice x2 xrs.length x5,.slice x3 xds.length x6],.slice vb bt.length vc] 53 (by kernel_rfl) (by kernel_rfl) (by kernel_rfl) (by kernel_rfl) (by kernel_rfl) ?_
      refine (hsx _ (instK.rd_below rx hW) (hT.below hW)).mono ?_
      rintro e w9 ⟨q8,rfl,_,_,_,_,hb9⟩
      replace hW:=hW.trans (hb9.mono hW.size)
      clear hb9
      refine ⟨_,rfl,⟨⟨_,hW⟩,rfl⟩,?_⟩
      simp only [Act.put,List.setIfInBounds_toArray,List.set_cons_zero,List.set_cons_succ]
      refine quiet_at 5 (some 72) (.int .i64 D1) 52 (by kernel_rfl) (by kernel_rfl) (by kernel_rfl) (by kernel_rfl) (by kernel_rfl) (fun u _=>by kernel_rfl) ⟨⟨_,hW⟩,rfl⟩ ?_
      simp only [Act.put,List.setIfInBounds_toArray,List.set_cons_zero,List.set_cons_succ]
      refine seg_range [(6,8)] 44 (by kernel_rfl) (by kernel_rfl) (by kernel_rfl) (by kernel_rfl) (by kernel_rfl) ⟨⟨_,hW⟩,rfl⟩ ?_
      simp only [pickR,List.toList_toArray,List.flatMap_cons,List.flatMap_nil,List.drop_succ_cons,List.drop_zero,List.take_succ_cons,List.take_zero,List.cons_append,List.nil_append,List.append_nil]
      repeat go_big_quiet_step (fail)
      refine wpQuiet_nil ?_
      refine skip_at 14 (some 81) 43 (by kernel_rfl) (by kernel_rfl) (by kernel_rfl) (by kernel_rfl) (by kernel_rfl) ⟨⟨_,hW⟩,rfl⟩ ?_
      simp only [Act.put,List.setIfInBounds_toArray,List.set_cons_zero,List.set_cons_succ]
      refine seg_range [(15,6)] 37 (by kernel_rfl) (by kernel_rfl) (by kernel_rfl) (by kernel_rfl) (by kernel_rfl) ⟨⟨_,hW⟩,rfl⟩ ?_
      simp only [pickR,List.toList_toArray,List.flatMap_cons,List.flatMap_nil,List.drop_succ_cons,List.drop_zero,List.take_succ_cons,List.take_zero,List.cons_append,List.nil_append,List.append_nil]
      repeat go_big_quiet_step (fail)
      refine wpQuiet_nil ?_
      refine skip_at 21 (some 88) 36 (by kernel_rfl) (by kernel_rfl) (by kernel_rfl) (by kernel_rfl) (by kernel_rfl) ⟨⟨_,hW⟩,rfl⟩ ?_
      simp only [Act.put,List.setIfInBounds_toArray,List.set_cons_zero,List.set_cons_succ]
      refine seg_range [(22,10)] 26 (by kernel_rfl) (by kernel_rfl) (by kernel_rfl) (by kernel_rfl) (by kernel_rfl) ⟨⟨_,hW⟩,rfl⟩ ?_
      simp only [pickR,List.toList_toArray,List.flatMap_cons,List.flatMap_nil,List.drop_succ_cons,List.drop_zero,List.take_succ_cons,List.take_zero,List.cons_append,List.nil_append,List.append_nil]
      repeat go_big_quiet_step (fail)
      refine wpQuiet_nil ?_
      refine call_at 32 (some 99) 20 #[.agg #[.bool yh,.slice y1 ybs.length y4,.slice y2 yrs.length y5,.slice y3 yds.length y6],.int .i64 n2,.int .i64 v2] 25 (by kernel_rfl) (by kernel_rfl) (by kernel_rfl) (by kernel_rfl) (by kernel_rfl) ?_
      refine (hsy _ (instK.rd_below ry hW)).mono ?_
      rintro e w9 ⟨q8,rfl,_,_,_,_,hb9⟩
      replace hW:=hW.trans (hb9.mono hW.size)
      clear hb9
      refine ⟨_,rfl,⟨⟨_,hW⟩,rfl⟩,?_⟩
      simp only [Act.put,List.setIfInBounds_toArray,List.set_cons_zero,List.set_cons_succ]
      refine quiet_at 33 (some 100) (.int .i64 D2) 24 (by kernel_rfl) (by kernel_rfl) (by kernel_rfl) (by kernel_rfl) (by kernel_rfl) (fun u _=>by kernel_rfl) ⟨⟨_,hW⟩,rfl⟩ ?_
      simp only [Act.put,List.setIfInBounds_toArray,List.set_cons_zero,List.set_cons_succ]
      refine seg_range [(34,9)] 15 (by kernel_rfl) (by kernel_rfl) (by kernel_rfl) (by kernel_rfl) (by kernel_rfl) ⟨⟨_,hW⟩,rfl⟩ ?_
      simp only [pickR,List.toList_toArray,List.flatMap_cons,List.flatMap_nil,List.drop_succ_cons,List.drop_zero,List.take_succ_cons,List.take_zero,List.cons_append,List.nil_append,List.append_nil]
      repeat go_big_quiet_step (fail)
      refine wpQuiet_nil ?_
      refine skip_at 43 (some 110) 14 (by kernel_rfl) (by kernel_rfl) (by kernel_rfl) (by kernel_rfl) (by kernel_rfl) ⟨⟨_,hW⟩,rfl⟩ ?_
      simp only [Act.put,List.setIfInBounds_toArray,List.set_cons_zero,List.set_cons_succ]
      refine seg_range [(44,7)] 7 (by kernel_rfl) (by kernel_rfl) (by kernel_rfl) (by kernel_rfl) (by kernel_rfl) ⟨⟨_,hW⟩,rfl⟩ ?_
      simp only [pickR,List.toList_toArray,List.flatMap_cons,List.flatMap_nil,List.drop_succ_cons,List.drop_zero,List.take_succ_cons,List.take_zero,List.cons_append,List.nil_append,List.append_nil]
      repeat go_big_quiet_step (fail)
      refine wpQuiet_nil ?_
      refine skip_at 51 (some 118) 6 (by kernel_rfl) (by kernel_rfl) (by kernel_rfl) (by kernel_rfl) (by kernel_rfl) ⟨⟨_,hW⟩,rfl⟩ ?_
      simp only [Act.put,List.setIfInBounds_toArray,List.set_cons_zero,List.set_cons_succ]
      refine skip_at 52 (some 119) 5 (by kernel_rfl) (by kernel_rfl) (by kernel_rfl) (by kernel_rfl) (by kernel_rfl) ⟨⟨_,hW⟩,rfl⟩ ?_
      simp only [Act.put,List.setIfInBounds_toArray,List.set_cons_zero,List.set_cons_succ]
      refine skip_at 53 (some 120) 4 (by kernel_rfl) (by kernel_rfl) (by kernel_rfl) (by kernel_rfl) (by kernel_rfl) ⟨⟨_,hW⟩,rfl⟩ ?_
      simp only [Act.put,List.setIfInBounds_toArray,List.set_cons_zero,List.set_cons_succ]
      refine seg_range [(54,4)] 0 (by kernel_rfl) (by kernel_rfl) (by kernel_rfl) (by kernel_rfl) (by kernel_rfl) ⟨⟨_,hW⟩,rfl⟩ ?_
      simp only [pickR,List.toList_toArray,List.flatMap_cons,List.flatMap_nil,List.drop_succ_cons,List.drop_zero,List.take_succ_cons,List.take_zero,List.cons_append,List.nil_append,List.append_nil]
      repeat go_big_quiet_step (fail)
      refine wpQuiet_nil ?_
      refine text_end (by kernel_rfl) ?_
      exact CutQ.mk rfl rfl rfl (Nat.le_of_ble_eq_true (by kernel_rfl)) hW
  intro mid X2 hlen hW
  match mid,hlen with
  | mm0 :: mm1 :: mm2 :: mm3 :: mm4 :: mm5 :: mm6 :: mm7 :: mm8 :: mm9 :: mm10 :: mm11 :: mm12 :: mm13 :: mm14 :: mm15 :: mm16 :: mm17 :: mm18 :: mm19 :: mm20 :: mm21 :: mm22 :: mm23 :: mm24 :: mm25 :: mm26 :: mm27 :: mm28 :: mm29 :: mm30 :: mm31 :: mm32 :: mm33 :: mm34 :: mm35 :: mm36 :: mm37 :: mm38 :: mm39 :: mm40 :: mm41 :: mm42 :: mm43 :: mm44 :: mm45 :: mm46 :: mm47 :: mm48 :: mm49 :: mm50 :: mm51 :: mm52 :: mm53 :: mm54 :: mm55 :: mm56 :: [],_=>
  simp only [List.toList_toArray,List.take_succ_cons,List.take_zero,List.drop_succ_cons,List.drop_zero,List.cons_append,List.nil_append]
  replace A1:=A1.below hW
  replace R1:=R1.below hW
  replace A2:=A2.below hW
  replace R2:=R2.below hW
  replace A3:=A3.below hW
  replace R3:=R3.below hW
  replace A4:=A4.below hW
  replace R4:=R4.below hW
  replace rx:=instK.rd_below rx hW
  replace rS:=instK.rd_below rS hW
  replace ry:=instK.rd_below ry hW
  replace rF:=instK.rd_below rF hW
  replace rz:=instK.rd_below rz hW
  replace rP:=instK.rd_below rP hW
  replace ru:=instK.rd_below ru hW
  replace rG:=instK.rd_below rG hW
  replace hT:=hT.below hW
  replace hb:=hb.trans (hW.mono hb.size)
  clear hW
  clear A1 R1 A2 R2 H1 H2 rx rS ry rF hT eS eF hsx hsy
  go_wp2_with fail
  refine region_cut 125 31 (.bool false) (fun w' => Below X2.heap.size X2 w') ?_ ?_
  ·try simp only [List.append_eq,List.cons_append,List.nil_append]
   clear A4 R4 H4 ru rG eG hsu hlu hn4 hlx hly hn1 hn2 hnb
   have hW:Below X2.heap.size X2 X2.drew:=(Below.refl _ _).drew
   have hnn:Nonempty (Lat X2):=⟨⟨X2,Below.refl _ _⟩⟩
   have hGX:=hG.below hb
   have a3_0:=A3.lat 0 _ rfl
   have a3_1:=A3.lat 1 _ rfl
   have a3_2:=A3.lat 2 _ rfl
   have a3_3:=A3.lat 3 _ rfl
   have r3_0:=R3.lat 0 _ rfl
   have r3_5:=R3.lat 5 _ rfl
   have r3_6:=R3.lat 6 _ rfl
   have r3_7:=R3.lat 7 _ rfl
   have r3_8:=R3.lat 8 _ rfl
   have t3:(D3 != D3)=false:=by simp
   by_cases hd3:D3=0
   ·have hz3:=H3.out hd3
    have hzP:insF (InstQ.e (⟨Ph,.slice P1 Pbs.length P4,Pbs,.slice P2 Prs.length P5,Prs,.slice P3 Pds.length P6,Pds⟩:InstQ))=0:=by rw [eP];exact hz3
    have hlRP:=sm_of hzP
    have hifP:∀ w (hG:Rul w) (h:instK.rd w (⟨Ph,.slice P1 Pbs.length P4,Pbs,.slice P2 Prs.length P5,Prs,.slice P3 Pds.length P6,Pds⟩:InstQ)),Calls Tryz.prog 18 #[.agg #[.bool Ph,.slice P1 Pbs.length P4,.slice P2 Prs.length P5,.slice P3 Pds.length P6]] w fun e w' => e=.returned (.int .i64 0)∧Below w.heap.size w w' := fun w hG h=>by
     have:=implInstanceFault_any (⟨Ph,.slice P1 Pbs.length P4,Pbs,.slice P2 Prs.length P5,Prs,.slice P3 Pds.length P6,Pds⟩:InstQ) w hG h hlRP
     rw [hzP] at this
     exact this
    have hsiP:∀ q9:InstQ,q9.e=I3→∀ w (h:instK.rd w (⟨Ph,.slice P1 Pbs.length P4,Pbs,.slice P2 Prs.length P5,Prs,.slice P3 Pds.length P6,Pds⟩:InstQ)) (h' : instK.rd w q9),Calls Tryz.prog 21 #[.agg #[.bool Ph,.slice P1 Pbs.length P4,.slice P2 Prs.length P5,.slice P3 Pds.length P6],.agg #[.bool q9.has,q9.vb,q9.vr,q9.vd]] w fun e w' => e=.returned (.bool true)∧Below w.heap.size w w' := fun q9 h9 w h h' => by
     have h8:insF (InstQ.e q9)=0:=by rw [h9];exact hz3
     have:=implSameInst_any (⟨Ph,.slice P1 Pbs.length P4,Pbs,.slice P2 Prs.length P5,Prs,.slice P3 Pds.length P6,Pds⟩:InstQ) q9 w h h' hlRP (sm_of h8)
     rw [eP,h9,sameI_refl] at this
     exact this
    subst hd3
    clear H3
    as_aux_lemma=>
     refine text_begin (S:=fun w' => ∃ u:Lat X2,w' = u.val) (by kernel_rfl) ?_
     refine seg_range [(0,6)] 26 (by kernel_rfl) (by kernel_rfl) (by kernel_rfl) (by kernel_rfl) (by kernel_rfl) ⟨⟨_,hW⟩,rfl⟩ ?_
     simp only [pickR,List.toList_toArray,List.flatMap_cons,List.flatMap_nil,List.drop_succ_cons,List.drop_zero,List.take_succ_cons,List.take_zero,List.cons_append,List.nil_append,List.append_nil]
     repeat go_big_quiet_step (fail)
     refine wpQuiet_nil ?_
     refine call_at 6 (some 131) 22 #[.agg #[.bool zh,.slice z1 zbs.length z4,.slice z2 zrs.length z5,.slice z3 zds.length z6],.int .i64 n3,.int .i64 r3,.int .i64 m3] 25 (by kernel_rfl) (by kernel_rfl) (by kernel_rfl) (by kernel_rfl) (by kernel_rfl) ?_
     refine (hsz _ (instK.rd_below rz hW)).mono ?_
     rintro e w9 ⟨q8,rfl,_,_,_,_,hb9⟩
     replace hW:=hW.trans (hb9.mono hW.size)
     clear hb9
     refine ⟨_,rfl,⟨⟨_,hW⟩,rfl⟩,?_⟩
     simp only [Act.put,List.setIfInBounds_toArray,List.set_cons_zero,List.set_cons_succ]
     refine quiet_at 7 (some 132) (.int .i64 0) 24 (by kernel_rfl) (by kernel_rfl) (by kernel_rfl) (by kernel_rfl) (by kernel_rfl) (fun u _=>by kernel_rfl) ⟨⟨_,hW⟩,rfl⟩ ?_
     simp only [Act.put,List.setIfInBounds_toArray,List.set_cons_zero,List.set_cons_succ]
     refine seg_range [(8,8)] 16 (by kernel_rfl) (by kernel_rfl) (by kernel_rfl) (by kernel_rfl) (by kernel_rfl) ⟨⟨_,hW⟩,rfl⟩ ?_
     simp only [pickR,List.toList_toArray,List.flatMap_cons,List.flatMap_nil,List.drop_succ_cons,List.drop_zero,List.take_succ_cons,List.take_zero,List.cons_append,List.nil_append,List.append_nil]
     repeat go_big_quiet_step (fail)
     refine wpQuiet_nil ?_
     refine call_at 16 (some 141) 18 #[.agg #[.bool Ph,.slice P1 Pbs.length P4,.slice P2 Prs.length P5,.slice P3 Pds.length P6]] 15 (by kernel_rfl) (by kernel_rfl) (by kernel_rfl) (by kernel_rfl) (by kernel_rfl) ?_
     refine (hifP _ (hGX.r.below hW) (instK.rd_below rP hW)).mono ?_
     rintro e w9 ⟨rfl,hb9⟩
     replace hW:=hW.trans (hb9.mono hW.size)
     clear hb9
     refine ⟨_,rfl,⟨⟨_,hW⟩,rfl⟩,?_⟩
     simp only [Act.put,List.setIfInBounds_toArray,List.set_cons_zero,List.set_cons_succ]
     refine seg_range [(17,8)] 7 (by kernel_rfl) (by kernel_rfl) (by kernel_rfl) (by kernel_rfl) (by kernel_rfl) ⟨⟨_,hW⟩,rfl⟩ ?_
     simp only [pickR,List.toList_toArray,List.flatMap_cons,List.flatMap_nil,List.drop_succ_cons,List.drop_zero,List.take_succ_cons,List.take_zero,List.cons_append,List.nil_append,List.append_nil]
     repeat go_big_quiet_step (fail)
     refine wpQuiet_nil ?_
     refine call_at 25 (some 150) 22 #[.agg #[.bool zh,.slice z1 zbs.length z4,.slice z2 zrs.length z5,.slice z3 zds.length z6],.int .i64 n3,.int .i64 r3,.int .i64 m3] 6 (by kernel_rfl) (by kernel_rfl) (by kernel_rfl) (by kernel_rfl) (by kernel_rfl) ?_
     refine (hsz _ (instK.rd_below rz hW)).mono ?_
     rintro e w9 ⟨q9,rfl,e9,o9,_,_,hb9⟩
     replace hW:=hW.trans (hb9.mono hW.size)
     have r9:=instK.own_rd o9
     clear hb9
     refine ⟨_,rfl,⟨⟨_,hW⟩,rfl⟩,?_⟩
     simp only [Act.put,List.setIfInBounds_toArray,List.set_cons_zero,List.set_cons_succ]
     refine quiet_at 26 (some 151) (.agg #[.bool q9.has,q9.vb,q9.vr,q9.vd]) 5 (by kernel_rfl) (by kernel_rfl) (by kernel_rfl) (by kernel_rfl) (by kernel_rfl) (fun u _=>by kernel_rfl) ⟨⟨_,hW⟩,rfl⟩ ?_
     simp only [Act.put,List.setIfInBounds_toArray,List.set_cons_zero,List.set_cons_succ]
     refine call_at 27 (some 152) 21 #[.agg #[.bool Ph,.slice P1 Pbs.length P4,.slice P2 Prs.length P5,.slice P3 Pds.length P6],.agg #[.bool q9.has,q9.vb,q9.vr,q9.vd]] 4 (by kernel_rfl) (by kernel_rfl) (by kernel_rfl) (by kernel_rfl) (by kernel_rfl) ?_
     refine (hsiP q9 e9 _ (instK.rd_below rP hW) r9).mono ?_
     rintro e w9 ⟨rfl,hb9⟩
     replace hW:=hW.trans (hb9.mono hW.size)
     clear hb9
     refine ⟨_,rfl,⟨⟨_,hW⟩,rfl⟩,?_⟩
     simp only [Act.put,List.setIfInBounds_toArray,List.set_cons_zero,List.set_cons_succ]
     refine seg_range [(28,4)] 0 (by kernel_rfl) (by kernel_rfl) (by kernel_rfl) (by kernel_rfl) (by kernel_rfl) ⟨⟨_,hW⟩,rfl⟩ ?_
     simp only [pickR,List.toList_toArray,List.flatMap_cons,List.flatMap_nil,List.drop_succ_cons,List.drop_zero,List.take_succ_cons,List.take_zero,List.cons_append,List.nil_append,List.append_nil]
     repeat go_big_quiet_step (fail)
     refine wpQuiet_nil ?_
     refine text_end (by kernel_rfl) ?_
     exact CutQ.mk rfl rfl rfl (Nat.le_of_ble_eq_true (by kernel_rfl)) hW
   ·have hd3' : (D3 == 0)=false:=by simpa using hd3
    clear H3 hd3
    as_aux_lemma=>
     refine text_begin (S:=fun w' => ∃ u:Lat X2,w' = u.val) (by kernel_rfl) ?_
     refine seg_range [(0,6)] 26 (by kernel_rfl) (by kernel_rfl) (by kernel_rfl) (by kernel_rfl) (by kernel_rfl) ⟨⟨_,hW⟩,rfl⟩ ?_
     simp only [pickR,List.toList_toArray,List.flatMap_cons,List.flatMap_nil,List.drop_succ_cons,List.drop_zero,List.take_succ_cons,List.take_zero,List.cons_append,List.nil_append,List.append_nil]
     repeat go_big_quiet_step (fail)
     refine wpQuiet_nil ?_
     refine call_at 6 (some 131) 22 #[.agg #[.bool zh,.slice z1 zbs.length z4,.slice z2 zrs.length z5,.slice z3 zds.length z6],.int .i64 n3,.int .i64 r3,.int .i64 m3] 25 (by kernel_rfl) (by kernel_rfl) (by kernel_rfl) (by kernel_rfl) (by kernel_rfl) ?_
     refine (hsz _ (instK.rd_below rz hW)).mono ?_
     rintro e w9 ⟨q8,rfl,_,_,_,_,hb9⟩
     replace hW:=hW.trans (hb9.mono hW.size)
     clear hb9
     refine ⟨_,rfl,⟨⟨_,hW⟩,rfl⟩,?_⟩
     simp only [Act.put,List.setIfInBounds_toArray,List.set_cons_zero,List.set_cons_succ]
     refine quiet_at 7 (some 132) (.int .i64 D3) 24 (by kernel_rfl) (by kernel_rfl) (by kernel_rfl) (by kernel_rfl) (by kernel_rfl) (fun u _=>by kernel_rfl) ⟨⟨_,hW⟩,rfl⟩ ?_
     simp only [Act.put,List.setIfInBounds_toArray,List.set_cons_zero,List.set_cons_succ]
     refine seg_range [(8,8)] 16 (by kernel_rfl) (by kernel_rfl) (by kernel_rfl) (by kernel_rfl) (by kernel_rfl) ⟨⟨_,hW⟩,rfl⟩ ?_
     simp only [pickR,List.toList_toArray,List.flatMap_cons,List.flatMap_nil,List.drop_succ_cons,List.drop_zero,List.take_succ_cons,List.take_zero,List.cons_append,List.nil_append,List.append_nil]
     repeat go_big_quiet_step (fail)
     refine wpQuiet_nil ?_
     refine skip_at 16 (some 141) 15 (by kernel_rfl) (by kernel_rfl) (by kernel_rfl) (by kernel_rfl) (by kernel_rfl) ⟨⟨_,hW⟩,rfl⟩ ?_
     simp only [Act.put,List.setIfInBounds_toArray,List.set_cons_zero,List.set_cons_succ]
     refine seg_range [(17,8)] 7 (by kernel_rfl) (by kernel_rfl) (by kernel_rfl) (by kernel_rfl) (by kernel_rfl) ⟨⟨_,hW⟩,rfl⟩ ?_
     simp only [pickR,List.toList_toArray,List.flatMap_cons,List.flatMap_nil,List.drop_succ_cons,List.drop_zero,List.take_succ_cons,List.take_zero,List.cons_append,List.nil_append,List.append_nil]
     repeat go_big_quiet_step (fail)
     refine wpQuiet_nil ?_
     refine skip_at 25 (some 150) 6 (by kernel_rfl) (by kernel_rfl) (by kernel_rfl) (by kernel_rfl) (by kernel_rfl) ⟨⟨_,hW⟩,rfl⟩ ?_
     simp only [Act.put,List.setIfInBounds_toArray,List.set_cons_zero,List.set_cons_succ]
     refine skip_at 26 (some 151) 5 (by kernel_rfl) (by kernel_rfl) (by kernel_rfl) (by kernel_rfl) (by kernel_rfl) ⟨⟨_,hW⟩,rfl⟩ ?_
     simp only [Act.put,List.setIfInBounds_toArray,List.set_cons_zero,List.set_cons_succ]
     refine skip_at 27 (some 152) 4 (by kernel_rfl) (by kernel_rfl) (by kernel_rfl) (by kernel_rfl) (by kernel_rfl) ⟨⟨_,hW⟩,rfl⟩ ?_
     simp only [Act.put,List.setIfInBounds_toArray,List.set_cons_zero,List.set_cons_succ]
     refine seg_range [(28,4)] 0 (by kernel_rfl) (by kernel_rfl) (by kernel_rfl) (by kernel_rfl) (by kernel_rfl) ⟨⟨_,hW⟩,rfl⟩ ?_
     simp only [pickR,List.toList_toArray,List.flatMap_cons,List.flatMap_nil,List.drop_succ_cons,List.drop_zero,List.take_succ_cons,List.take_zero,List.cons_append,List.nil_append,List.append_nil]
     repeat go_big_quiet_step (fail)
     refine wpQuiet_nil ?_
     refine text_end (by kernel_rfl) ?_
     exact CutQ.mk rfl rfl rfl (Nat.le_of_ble_eq_true (by kernel_rfl)) hW
  intro mid X3 hlen hW
  match mid,hlen with
  | mm0 :: mm1 :: mm2 :: mm3 :: mm4 :: mm5 :: mm6 :: mm7 :: mm8 :: mm9 :: mm10 :: mm11 :: mm12 :: mm13 :: mm14 :: mm15 :: mm16 :: mm17 :: mm18 :: mm19 :: mm20 :: mm21 :: mm22 :: mm23 :: mm24 :: mm25 :: mm26 :: mm27 :: mm28 :: mm29 :: mm30 :: [],_=>
  simp only [List.toList_toArray,List.take_succ_cons,List.take_zero,List.drop_succ_cons,List.drop_zero,List.cons_append,List.nil_append]
  replace A3:=A3.below hW
  replace R3:=R3.below hW
  replace A4:=A4.below hW
  replace R4:=R4.below hW
  replace rz:=instK.rd_below rz hW
  replace rP:=instK.rd_below rP hW
  replace ru:=instK.rd_below ru hW
  replace rG:=instK.rd_below rG hW
  replace hb:=hb.trans (hW.mono hb.size)
  clear hW
  clear A3 R3 H3 rz rP eP hsz
  go_wp2_with fail
  have hW:Below X3.heap.size X3 X3.drew:=(Below.refl _ _).drew
  have hnn:Nonempty (Lat X3):=⟨⟨X3,Below.refl _ _⟩⟩
  have hGX:=hG.below hb
  have a4_0:=A4.lat 0 _ rfl
  have a4_1:=A4.lat 1 _ rfl
  have a4_2:=A4.lat 2 _ rfl
  have a4_3:=A4.lat 3 _ rfl
  have r4_0:=R4.lat 0 _ rfl
  have r4_1:=R4.lat 1 _ rfl
  have r4_2:=R4.lat 2 _ rfl
  have r4_3:=R4.lat 3 _ rfl
  have r4_4:=R4.lat 4 _ rfl
  have r4_5:=R4.lat 5 _ rfl
  have r4_6:=R4.lat 6 _ rfl
  have r4_7:=R4.lat 7 _ rfl
  have r4_8:=R4.lat 8 _ rfl
  have t4:(D4 == D4)=true:=by simp
  have hcC:=eqCh_run K0 K1 K2 K3
  have hifN:∀ qn:InstQ,qn.e=newE→∀ w (hG:Rul w) (h:instK.rd w qn),Calls Tryz.prog 18 #[.agg #[.bool qn.has,qn.vb,qn.vr,qn.vd]] w fun e w' => e=.returned (.int .i64 0)∧Below w.heap.size w w' := fun qn hq w hG h=>by
   have hz:insF (InstQ.e qn)=0:=by rw [hq];exact ins_new
   have:=implInstanceFault_any qn w hG h (sm_of hz)
   rw [hz] at this
   exact this
  by_cases hd4:D4=0
  ·have hz4:=H4.out hd4
   have hzG:insF (InstQ.e (⟨Gh,.slice G1 Gbs.length G4,Gbs,.slice G2 Grs.length G5,Grs,.slice G3 Gds.length G6,Gds⟩:InstQ))=0:=by rw [eG];exact hz4
   have hlRG:=sm_of hzG
   have hifG:∀ w (hG:Rul w) (h:instK.rd w (⟨Gh,.slice G1 Gbs.length G4,Gbs,.slice G2 Grs.length G5,Grs,.slice G3 Gds.length G6,Gds⟩:InstQ)),Calls Tryz.prog 18 #[.agg #[.bool Gh,.slice G1 Gbs.length G4,.slice G2 Grs.length G5,.slice G3 Gds.length G6]] w fun e w' => e=.returned (.int .i64 0)∧Below w.heap.size w w' := fun w hG h=>by
    have:=implInstanceFault_any (⟨Gh,.slice G1 Gbs.length G4,Gbs,.slice G2 Grs.length G5,Grs,.slice G3 Gds.length G6,Gds⟩:InstQ) w hG h hlRG
    rw [hzG] at this
    exact this
   have hsiG:∀ q9:InstQ,q9.e=I4→∀ w (h:instK.rd w (⟨Gh,.slice G1 Gbs.length G4,Gbs,.slice G2 Grs.length G5,Grs,.slice G3 Gds.length G6,Gds⟩:InstQ)) (h' : instK.rd w q9),Calls Tryz.prog 21 #[.agg #[.bool Gh,.slice G1 Gbs.length G4,.slice G2 Grs.length G5,.slice G3 Gds.length G6],.agg #[.bool q9.has,q9.vb,q9.vr,q9.vd]] w fun e w' => e=.returned (.bool true)∧Below w.heap.size w w' := fun q9 h9 w h h' => by
    have h8:insF (InstQ.e q9)=0:=by rw [h9];exact hz4
    have:=implSameInst_any (⟨Gh,.slice G1 Gbs.length G4,Gbs,.slice G2 Grs.length G5,Grs,.slice G3 Gds.length G6,Gds⟩:InstQ) q9 w h h' hlRG (sm_of h8)
    rw [eG,h9,sameI_refl] at this
    exact this
   subst hd4
   clear H4
   as_aux_lemma=>
    refine text_begin (S:=fun w' => ∃ u:Lat X3,w' = u.val) (by kernel_rfl) ?_
    refine seg_range [(0,7)] 45 (by kernel_rfl) (by kernel_rfl) (by kernel_rfl) (by kernel_rfl) (by kernel_rfl) ⟨⟨_,hW⟩,rfl⟩ ?_
    simp only [pickR,List.toList_toArray,List.flatMap_cons,List.flatMap_nil,List.drop_succ_cons,List.drop_zero,List.take_succ_cons,List.take_zero,List.cons_append,List.nil_append,List.append_nil]
    repeat go_big_quiet_step (fail)
    refine wpQuiet_nil ?_
    refine call_at 7 (some 164) 23 #[.agg #[.bool uh,.slice u1 ubs.length u4,.slice u2 urs.length u5,.slice u3 uds.length u6],.int .i64 n4,.int .i64 r4,.int .i64 m4,.int .i64 cn] 44 (by kernel_rfl) (by kernel_rfl) (by kernel_rfl) (by kernel_rfl) (by kernel_rfl) ?_
    refine (hsu _ (instK.rd_below ru hW)).mono ?_
    rintro e w9 ⟨q164,rfl,_,_,_,_,hb9⟩
    replace hW:=hW.trans (hb9.mono hW.size)
    clear hb9
    refine ⟨_,rfl,⟨⟨_,hW⟩,rfl⟩,?_⟩
    simp only [Act.put,List.setIfInBounds_toArray,List.set_cons_zero,List.set_cons_succ]
    refine quiet_at 8 (some 165) (.int .i64 0) 43 (by kernel_rfl) (by kernel_rfl) (by kernel_rfl) (by kernel_rfl) (by kernel_rfl) (fun u _=>by kernel_rfl) ⟨⟨_,hW⟩,rfl⟩ ?_
    simp only [Act.put,List.setIfInBounds_toArray,List.set_cons_zero,List.set_cons_succ]
    refine seg_range [(9,8)] 35 (by kernel_rfl) (by kernel_rfl) (by kernel_rfl) (by kernel_rfl) (by kernel_rfl) ⟨⟨_,hW⟩,rfl⟩ ?_
    simp only [pickR,List.toList_toArray,List.flatMap_cons,List.flatMap_nil,List.drop_succ_cons,List.drop_zero,List.take_succ_cons,List.take_zero,List.cons_append,List.nil_append,List.append_nil]
    repeat go_big_quiet_step (fail)
    refine wpQuiet_nil ?_
    refine call_at 17 (some 174) 18 #[.agg #[.bool Gh,.slice G1 Gbs.length G4,.slice G2 Grs.length G5,.slice G3 Gds.length G6]] 34 (by kernel_rfl) (by kernel_rfl) (by kernel_rfl) (by kernel_rfl) (by kernel_rfl) ?_
    refine (hifG _ (hGX.r.below hW) (instK.rd_below rG hW)).mono ?_
    rintro e w9 ⟨rfl,hb9⟩
    replace hW:=hW.trans (hb9.mono hW.size)
    clear hb9
    refine ⟨_,rfl,⟨⟨_,hW⟩,rfl⟩,?_⟩
    simp only [Act.put,List.setIfInBounds_toArray,List.set_cons_zero,List.set_cons_succ]
    refine seg_range [(18,9)] 25 (by kernel_rfl) (by kernel_rfl) (by kernel_rfl) (by kernel_rfl) (by kernel_rfl) ⟨⟨_,hW⟩,rfl⟩ ?_
    simp only [pickR,List.toList_toArray,List.flatMap_cons,List.flatMap_nil,List.drop_succ_cons,List.drop_zero,List.take_succ_cons,List.take_zero,List.cons_append,List.nil_append,List.append_nil]
    repeat go_big_quiet_step (fail)
    refine wpQuiet_nil ?_
    refine call_at 27 (some 184) 23 #[.agg #[.bool uh,.slice u1 ubs.length u4,.slice u2 urs.length u5,.slice u3 uds.length u6],.int .i64 n4,.int .i64 r4,.int .i64 m4,.int .i64 cn] 24 (by kernel_rfl) (by kernel_rfl) (by kernel_rfl) (by kernel_rfl) (by kernel_rfl) ?_
    refine (hsu _ (instK.rd_below ru hW)).mono ?_
    rintro e w9 ⟨q184,rfl,_,_,_,_,hb9⟩
    replace hW:=hW.trans (hb9.mono hW.size)
    clear hb9
    refine ⟨_,rfl,⟨⟨_,hW⟩,rfl⟩,?_⟩
    simp only [Act.put,List.setIfInBounds_toArray,List.set_cons_zero,List.set_cons_succ]
    refine quiet_at 28 (some 185) (.agg #[.int .i64 K0,.bool K1,.bool K2,.int .i64 K3]) 23 (by kernel_rfl) (by kernel_rfl) (by kernel_rfl) (by kernel_rfl) (by kernel_rfl) (fun u _=>by kernel_rfl) ⟨⟨_,hW⟩,rfl⟩ ?_
    simp only [Act.put,List.setIfInBounds_toArray,List.set_cons_zero,List.set_cons_succ]
    refine seg_range [(29,10)] 13 (by kernel_rfl) (by kernel_rfl) (by kernel_rfl) (by kernel_rfl) (by kernel_rfl) ⟨⟨_,hW⟩,rfl⟩ ?_
    simp only [pickR,List.toList_toArray,List.flatMap_cons,List.flatMap_nil,List.drop_succ_cons,List.drop_zero,List.take_succ_cons,List.take_zero,List.cons_append,List.nil_append,List.append_nil]
    repeat go_big_quiet_step (fail)
    refine wpQuiet_nil ?_
    refine call_at 39 (some 196) 23 #[.agg #[.bool uh,.slice u1 ubs.length u4,.slice u2 urs.length u5,.slice u3 uds.length u6],.int .i64 n4,.int .i64 r4,.int .i64 m4,.int .i64 cn] 12 (by kernel_rfl) (by kernel_rfl) (by kernel_rfl) (by kernel_rfl) (by kernel_rfl) ?_
    refine (hsu _ (instK.rd_below ru hW)).mono ?_
    rintro e w9 ⟨q9,rfl,e9,o9,_,_,hb9⟩
    replace hW:=hW.trans (hb9.mono hW.size)
    have r9:=instK.own_rd o9
    clear hb9
    refine ⟨_,rfl,⟨⟨_,hW⟩,rfl⟩,?_⟩
    simp only [Act.put,List.setIfInBounds_toArray,List.set_cons_zero,List.set_cons_succ]
    refine quiet_at 40 (some 197) (.agg #[.bool q9.has,q9.vb,q9.vr,q9.vd]) 11 (by kernel_rfl) (by kernel_rfl) (by kernel_rfl) (by kernel_rfl) (by kernel_rfl) (fun u _=>by kernel_rfl) ⟨⟨_,hW⟩,rfl⟩ ?_
    simp only [Act.put,List.setIfInBounds_toArray,List.set_cons_zero,List.set_cons_succ]
    refine call_at 41 (some 198) 21 #[.agg #[.bool Gh,.slice G1 Gbs.length G4,.slice G2 Grs.length G5,.slice G3 Gds.length G6],.agg #[.bool q9.has,q9.vb,q9.vr,q9.vd]] 10 (by kernel_rfl) (by kernel_rfl) (by kernel_rfl) (by kernel_rfl) (by kernel_rfl) ?_
    refine (hsiG q9 e9 _ (instK.rd_below rG hW) r9).mono ?_
    rintro e w9 ⟨rfl,hb9⟩
    replace hW:=hW.trans (hb9.mono hW.size)
    clear hb9
    refine ⟨_,rfl,⟨⟨_,hW⟩,rfl⟩,?_⟩
    simp only [Act.put,List.setIfInBounds_toArray,List.set_cons_zero,List.set_cons_succ]
    refine seg_range [(42,4)] 6 (by kernel_rfl) (by kernel_rfl) (by kernel_rfl) (by kernel_rfl) (by kernel_rfl) ⟨⟨_,hW⟩,rfl⟩ ?_
    simp only [pickR,List.toList_toArray,List.flatMap_cons,List.flatMap_nil,List.drop_succ_cons,List.drop_zero,List.take_succ_cons,List.take_zero,List.cons_append,List.nil_append,List.append_nil]
    repeat go_big_quiet_step (fail)
    refine wpQuiet_nil ?_
    refine call_at 46 (some 203) 24 #[] 5 (by kernel_rfl) (by kernel_rfl) (by kernel_rfl) (by kernel_rfl) (by kernel_rfl) ?_
    refine (implNewInstance_any _ (hGX.o.below hW)).mono ?_
    rintro e w9 ⟨qn,rfl,en,on,_,_,hb9⟩
    replace hW:=hW.trans (hb9.mono hW.size)
    have rn:=instK.own_rd on
    clear hb9
    refine ⟨_,rfl,⟨⟨_,hW⟩,rfl⟩,?_⟩
    simp only [Act.put,List.setIfInBounds_toArray,List.set_cons_zero,List.set_cons_succ]
    refine quiet_at 47 (some 204) (.agg #[.bool qn.has,qn.vb,qn.vr,qn.vd]) 4 (by kernel_rfl) (by kernel_rfl) (by kernel_rfl) (by kernel_rfl) (by kernel_rfl) (fun u _=>by kernel_rfl) ⟨⟨_,hW⟩,rfl⟩ ?_
    simp only [Act.put,List.setIfInBounds_toArray,List.set_cons_zero,List.set_cons_succ]
    refine call_at 48 (some 205) 18 #[.agg #[.bool qn.has,qn.vb,qn.vr,qn.vd]] 3 (by kernel_rfl) (by kernel_rfl) (by kernel_rfl) (by kernel_rfl) (by kernel_rfl) ?_
    refine (hifN qn en _ (hGX.r.below hW) rn).mono ?_
    rintro e w9 ⟨rfl,hb9⟩
    replace hW:=hW.trans (hb9.mono hW.size)
    clear hb9
    refine ⟨_,rfl,⟨⟨_,hW⟩,rfl⟩,?_⟩
    simp only [Act.put,List.setIfInBounds_toArray,List.set_cons_zero,List.set_cons_succ]
    refine seg_range [(49,3)] 0 (by kernel_rfl) (by kernel_rfl) (by kernel_rfl) (by kernel_rfl) (by kernel_rfl) ⟨⟨_,hW⟩,rfl⟩ ?_
    simp only [pickR,List.toList_toArray,List.flatMap_cons,List.flatMap_nil,List.drop_succ_cons,List.drop_zero,List.take_succ_cons,List.take_zero,List.cons_append,List.nil_append,List.append_nil]
    repeat go_big_quiet_step (fail)
    refine wpQuiet_nil ?_
    refine text_end (by kernel_rfl) ?_
    replace hb:=hb.trans (hW.mono hb.size)
    go_wp2
    go_ret
    exact ⟨rfl,hb⟩
  ·have hd4' : (D4 != 0)=true:=by simpa using hd4
   clear H4 hd4
   as_aux_lemma=>
    refine text_begin (S:=fun w' => ∃ u:Lat X3,w' = u.val) (by kernel_rfl) ?_
    refine seg_range [(0,7)] 45 (by kernel_rfl) (by kernel_rfl) (by kernel_rfl) (by kernel_rfl) (by kernel_rfl) ⟨⟨_,hW⟩,rfl⟩ ?_
    simp only [pickR,List.toList_toArray,List.flatMap_cons,List.flatMap_nil,List.drop_succ_cons,List.drop_zero,List.take_succ_cons,List.take_zero,List.cons_append,List.nil_append,List.append_nil]
    repeat go_big_quiet_step (fail)
    refine wpQuiet_nil ?_
    refine call_at 7 (some 164) 23 #[.agg #[.bool uh,.slice u1 ubs.length u4,.slice u2 urs.length u5,.slice u3 uds.length u6],.int .i64 n4,.int .i64 r4,.int .i64 m4,.int .i64 cn] 44 (by kernel_rfl) (by kernel_rfl) (by kernel_rfl) (by kernel_rfl) (by kernel_rfl) ?_
    refine (hsu _ (instK.rd_below ru hW)).mono ?_
    rintro e w9 ⟨q164,rfl,_,_,_,_,hb9⟩
    replace hW:=hW.trans (hb9.mono hW.size)
    clear hb9
    refine ⟨_,rfl,⟨⟨_,hW⟩,rfl⟩,?_⟩
    simp only [Act.put,List.setIfInBounds_toArray,List.set_cons_zero,List.set_cons_succ]
    refine quiet_at 8 (some 165) (.int .i64 D4) 43 (by kernel_rfl) (by kernel_rfl) (by kernel_rfl) (by kernel_rfl) (by kernel_rfl) (fun u _=>by kernel_rfl) ⟨⟨_,hW⟩,rfl⟩ ?_
    simp only [Act.put,List.setIfInBounds_toArray,List.set_cons_zero,List.set_cons_succ]
    refine seg_range [(9,8)] 35 (by kernel_rfl) (by kernel_rfl) (by kernel_rfl) (by kernel_rfl) (by kernel_rfl) ⟨⟨_,hW⟩,rfl⟩ ?_
    simp only [pickR,List.toList_toArray,List.flatMap_cons,List.flatMap_nil,List.drop_succ_cons,List.drop_zero,List.take_succ_cons,List.take_zero,List.cons_append,List.nil_append,List.append_nil]
    repeat go_big_quiet_step (fail)
    refine wpQuiet_nil ?_
    refine skip_at 17 (some 174) 34 (by kernel_rfl) (by kernel_rfl) (by kernel_rfl) (by kernel_rfl) (by kernel_rfl) ⟨⟨_,hW⟩,rfl⟩ ?_
    simp only [Act.put,List.setIfInBounds_toArray,List.set_cons_zero,List.set_cons_succ]
    refine seg_range [(18,9)] 25 (by kernel_rfl) (by kernel_rfl) (by kernel_rfl) (by kernel_rfl) (by kernel_rfl) ⟨⟨_,hW⟩,rfl⟩ ?_
    simp only [pickR,List.toList_toArray,List.flatMap_cons,List.flatMap_nil,List.drop_succ_cons,List.drop_zero,List.take_succ_cons,List.take_zero,List.cons_append,List.nil_append,List.append_nil]
    repeat go_big_quiet_step (fail)
    refine wpQuiet_nil ?_
    refine skip_at 27 (some 184) 24 (by kernel_rfl) (by kernel_rfl) (by kernel_rfl) (by kernel_rfl) (by kernel_rfl) ⟨⟨_,hW⟩,rfl⟩ ?_
    simp only [Act.put,List.setIfInBounds_toArray,List.set_cons_zero,List.set_cons_succ]
    refine skip_at 28 (some 185) 23 (by kernel_rfl) (by kernel_rfl) (by kernel_rfl) (by kernel_rfl) (by kernel_rfl) ⟨⟨_,hW⟩,rfl⟩ ?_
    simp only [Act.put,List.setIfInBounds_toArray,List.set_cons_zero,List.set_cons_succ]
    refine seg_range [(29,10)] 13 (by kernel_rfl) (by kernel_rfl) (by kernel_rfl) (by kernel_rfl) (by kernel_rfl) ⟨⟨_,hW⟩,rfl⟩ ?_
    simp only [pickR,List.toList_toArray,List.flatMap_cons,List.flatMap_nil,List.drop_succ_cons,List.drop_zero,List.take_succ_cons,List.take_zero,List.cons_append,List.nil_append,List.append_nil]
    repeat go_big_quiet_step (fail)
    refine wpQuiet_nil ?_
    refine skip_at 39 (some 196) 12 (by kernel_rfl) (by kernel_rfl) (by kernel_rfl) (by kernel_rfl) (by kernel_rfl) ⟨⟨_,hW⟩,rfl⟩ ?_
    simp only [Act.put,List.setIfInBounds_toArray,List.set_cons_zero,List.set_cons_succ]
    refine skip_at 40 (some 197) 11 (by kernel_rfl) (by kernel_rfl) (by kernel_rfl) (by kernel_rfl) (by kernel_rfl) ⟨⟨_,hW⟩,rfl⟩ ?_
    simp only [Act.put,List.setIfInBounds_toArray,List.set_cons_zero,List.set_cons_succ]
    refine skip_at 41 (some 198) 10 (by kernel_rfl) (by kernel_rfl) (by kernel_rfl) (by kernel_rfl) (by kernel_rfl) ⟨⟨_,hW⟩,rfl⟩ ?_
    simp only [Act.put,List.setIfInBounds_toArray,List.set_cons_zero,List.set_cons_succ]
    refine seg_range [(42,4)] 6 (by kernel_rfl) (by kernel_rfl) (by kernel_rfl) (by kernel_rfl) (by kernel_rfl) ⟨⟨_,hW⟩,rfl⟩ ?_
    simp only [pickR,List.toList_toArray,List.flatMap_cons,List.flatMap_nil,List.drop_succ_cons,List.drop_zero,List.take_succ_cons,List.take_zero,List.cons_append,List.nil_append,List.append_nil]
    repeat go_big_quiet_step (fail)
    refine wpQuiet_nil ?_
    refine call_at 46 (some 203) 24 #[] 5 (by kernel_rfl) (by kernel_rfl) (by kernel_rfl) (by kernel_rfl) (by kernel_rfl) ?_
    refine (implNewInstance_any _ (hGX.o.below hW)).mono ?_
    rintro e w9 ⟨qn,rfl,en,on,_,_,hb9⟩
    replace hW:=hW.trans (hb9.mono hW.size)
    have rn:=instK.own_rd on
    clear hb9
    refine ⟨_,rfl,⟨⟨_,hW⟩,rfl⟩,?_⟩
    simp only [Act.put,List.setIfInBounds_toArray,List.set_cons_zero,List.set_cons_succ]
    refine quiet_at 47 (some 204) (.agg #[.bool qn.has,qn.vb,qn.vr,qn.vd]) 4 (by kernel_rfl) (by kernel_rfl) (by kernel_rfl) (by kernel_rfl) (by kernel_rfl) (fun u _=>by kernel_rfl) ⟨⟨_,hW⟩,rfl⟩ ?_
    simp only [Act.put,List.setIfInBounds_toArray,List.set_cons_zero,List.set_cons_succ]
    refine call_at 48 (some 205) 18 #[.agg #[.bool qn.has,qn.vb,qn.vr,qn.vd]] 3 (by kernel_rfl) (by kernel_rfl) (by kernel_rfl) (by kernel_rfl) (by kernel_rfl) ?_
    refine (hifN qn en _ (hGX.r.below hW) rn).mono ?_
    rintro e w9 ⟨rfl,hb9⟩
    replace hW:=hW.trans (hb9.mono hW.size)
    clear hb9
    refine ⟨_,rfl,⟨⟨_,hW⟩,rfl⟩,?_⟩
    simp only [Act.put,List.setIfInBounds_toArray,List.set_cons_zero,List.set_cons_succ]
    refine seg_range [(49,3)] 0 (by kernel_rfl) (by kernel_rfl) (by kernel_rfl) (by kernel_rfl) (by kernel_rfl) ⟨⟨_,hW⟩,rfl⟩ ?_
    simp only [pickR,List.toList_toArray,List.flatMap_cons,List.flatMap_nil,List.drop_succ_cons,List.drop_zero,List.take_succ_cons,List.take_zero,List.cons_append,List.nil_append,List.append_nil]
    repeat go_big_quiet_step (fail)
    refine wpQuiet_nil ?_
    refine text_end (by kernel_rfl) ?_
    replace hb:=hb.trans (hW.mono hb.size)
    go_wp2
    go_ret
    exact ⟨rfl,hb⟩
 ·have hd:decide (1048576 < (zs.length:Int))=true:=decide_eq_true (by omega)
  go_enter Tryz.func3,Tryz.ntmps3
  go_wp2_with fail
  refine (lwBig_any a zs.length cap w hm).mono ?_
  rintro e w1 ⟨rfl,hw⟩
  replace hw:=hw.symm
  subst hw
  rw [hd]
  go_wp2
  go_ret
  exact ⟨rfl,Below.refl _ _⟩

end Go.Proofs.YtpjmlidbligcbaaGreatDoor

/- Texts joined, with what the laws reach alone. -/
import Derived.Test.YtdhdnppbgaikfaaGreatDoorLDAO
set_option linter.unusedVariables false
set_option linter.unusedSimpArgs false
namespace Go.Proofs.YtdhdnppbgaikfaaGreatDoor
open Go.RowKit
open Go.BigFrame
set_option maxRecDepth 100000
set_option maxHeartbeats 8000000 in
theorem l6GoOn_any (b o:Nat) (p:InstQ) (node round mask coin:Int) (w:World) (hP:InstP w b o p) (hbw:b < w.heap.size) (hl:p.n≤1048576) (h0:insF p.e=0) :
  Calls Tryz.prog 50 #[.pointer (some ⟨b,o,none⟩),.int .i64 node,.int .i64 round,.int .i64 mask,.int .i64 coin] w fun e w' => ∃ q:InstQ,e=.returned (.agg (resC (goC p.e node round mask coin) (goZ p.e node round mask coin) (goD p.e node round mask coin) (goK p.e node round mask coin) (goV p.e node round mask coin) q))∧q.e=goI p.e node round mask coin∧instK.own w' q∧(instK.foot q).Nodup∧(∀ k∈instK.foot q,w.heap.size≤k)∧Below w.heap.size w w' := by
 obtain ⟨hne,hro,hd0⟩:=ins_low h0
 obtain ⟨hwel,⟨_,h4⟩,hd3,hF,_⟩:=ins_ok h0
 have hcp:=fun w h=>l6Copy_any p w h hl hne hro hd0
 have h4' : p.rounds.length≤4:=by have:p.e.rounds.length=p.rounds.length:=List.length_map _;omega
 have hAs:=fun w' hP=>l6Asked_any b o p node round w' hP h4'
 have hIR:=fun (r:Nat) (hr:r < p.e.rounds.length)=>inst_round hP r (by have:p.e.rounds.length=p.rounds.length:=List.length_map _;omega) hF
 have hLE:=True.intro
 have HF:=go_facts p.e node round mask coin
 unfold goNo at HF
 have HA:Hid (atC p.e node round=if inB node 0 2 && inB round 0 ((p.rounds.length:Int) - 1) then 0 else 3):=by
  have:p.e.rounds.length=p.rounds.length:=List.length_map _
  unfold atC
  rw [if_pos h0,this]
  exact (rfl:_=_)
 have HD3:Hid (p.e.dec.length=3):=hd3
 have HRL:Hid (p.e.rounds.length=p.rounds.length):=List.length_map _
 have HH:Hid (p.e.has=p.has):=(rfl:_=_)
 generalize hAA:(inB node 0 2 && inB round 0 ((p.rounds.length:Int) - 1))=AA at *
 clear hAA hne hro hd0 hF h0 hd3
 generalize goC p.e node round mask coin=D at *
 generalize goI p.e node round mask coin=E at *
 generalize goZ p.e node round mask coin=K0 at *
 generalize goD p.e node round mask coin=K1 at *
 generalize goK p.e node round mask coin=K2 at *
 generalize goV p.e node round mask coin=K3 at *
 generalize atC p.e node round=C at *
 replace HF:Hid _:=HF
 have hrd:=hP.rd
 have hrb:=fun (w' : World) hb=>instK.rd_below (w' := w') hrd hb
 generalize hpe:p.e=pe at *
 clear hpe
 obtain ⟨has,vb,batch,vr,rounds,vd,dec⟩:=p
 obtain ⟨ba,bk,rfl⟩:∃ a c,vb=.slice a batch.length c:=hrd.1.shape
 obtain ⟨va,vk,rfl⟩:∃ a c,vr=.slice a rounds.length c:=hrd.2.1.shape
 obtain ⟨da,dk,rfl⟩:∃ a c,vd=.slice a dec.length c:=hrd.2.2.shape
 dsimp only at hcp hrb h4' hAs hIR HRL HA HH
 have hB:Below w.heap.size w (w.alloc (.cells #[.int .i64 0,.int .i64 0,.bool false,.bool false,.int .i64 0,.bool false,.slice none 0 0,.slice none 0 0,.slice none 0 0] 39)):=by go_grown
 have Rb:=Blk.new w 39 #[.int .i64 0,.int .i64 0,.bool false,.bool false,.int .i64 0,.bool false,.slice none 0 0,.slice none 0 0,.slice none 0 0]
 go_enter Tryz.func50,Tryz.ntmps50
 go_wp2_with fail
 generalize w.alloc (.cells #[.int .i64 0,.int .i64 0,.bool false,.bool false,.int .i64 0,.bool false,.slice none 0 0,.slice none 0 0,.slice none 0 0] 39)=W at *
 refine (hAs W (hP.below hB)).mono ?_
 rintro e w1 ⟨rfl,hb1⟩
 replace Rb:=Rb.below hb1
 replace hB:=hB.trans (hb1.mono hB.size)
 clear hb1 hAs
 cases AA with
 | false=>
  have hC:C=3:=HA.out
  have E1:Hid (D=3∧E=ine0∧K0=0∧K1=false∧K2=false∧K3=0):=by
   obtain ⟨h1,h2⟩:=HF.out.1 (by rw [hC];decide)
   exact ⟨h1.trans hC,h2⟩
  clear HF hIR hLE hcp hC HA
  go_wp2_with fail
  refine (l6Bad_any 3 _).mono ?_
  rintro e w8 ⟨rfl,hb8⟩
  replace hB:=hB.trans (hb8.mono hB.size)
  replace Rb:=Rb.below hb8
  clear hb8
  have Rr:=Rb.row #[.int .i64 3,.int .i64 0,.bool false,.bool false,.int .i64 0,.bool false,.slice none 0 0,.slice none 0 0,.slice none 0 0]
  have hBr:=below_row hB (g:=w.heap.size) (by omega) #[.int .i64 3,.int .i64 0,.bool false,.bool false,.int .i64 0,.bool false,.slice none 0 0,.slice none 0 0,.slice none 0 0]
  have hsr:(Tryz.prog.info? 39).map (·.size)=some (#[.int .i64 3,.int .i64 0,.bool false,.bool false,.int .i64 0,.bool false,.slice none 0 0,.slice none 0 0,.slice none 0 0]:Array Value).size:=sz_res
  go_wp2_with (first | (refine st_row (by kernel_rfl) 39 _ _ rfl _ #[.int .i64 3,.int .i64 0,.bool false,.bool false,.int .i64 0,.bool false,.slice none 0 0,.slice none 0 0,.slice none 0 0] rfl rfl 39 _ Rb hsr rfl (by simp [Value.oneCell']) ?_))
  obtain ⟨q0,q1,q2,q3,q4,q5,q6,q7,q8⟩:=Rr.cel9
  exact bodyPost_ret (v:=.agg #[.int .i64 3,.int .i64 0,.bool false,.bool false,.int .i64 0,.bool false,.slice none 0 0,.slice none 0 0,.slice none 0 0]) (by simp [results,Tryz.results50,go_sem,q0,q1,q2,q3,q4,q5,q6,q7,q8]) rfl ⟨inst0,by rw [E1.out.1,E1.out.2.2.1,E1.out.2.2.2.1,E1.out.2.2.2.2.1,E1.out.2.2.2.2.2];rfl,E1.out.2.1.symm,inst0_own _,inst0_nd,fun k hk=>by rw [inst0_ft] at hk;simp at hk,hBr⟩

 | true=>
  have hC:C=0:=HA.out
  obtain ⟨hi0,n,r,rfl,rfl,hn,hr,f8,fC,f6,f0⟩:=HF.out.2 hC
  have F8:Hid _:=f8
  have FC1:Hid _:=fC
  have F61:Hid _:=f6
  have F01:Hid _:=f0
  clear hi0 f8 fC f6 f0 HF hC HA
  obtain ⟨rb,ro,vk',xb,xo,xc,yb,yo,yc,hvr,k0,k1,kx,ky,Rx,Ry⟩:=hIR r hr
  simp only [Value.slice.injEq,true_and] at hvr
  obtain ⟨rfl,rfl⟩:=hvr
  replace kx:=kx n hn
  replace ky:=ky n hn
  replace k0:=cellB k0 hB
  replace k1:=cellB k1 hB
  replace kx:=cellB kx hB
  replace ky:=cellB ky hB
  have hPW:=hP.below hB
  obtain ⟨d0,d1,d2,d3⟩:=hPW.box
  dsimp only at d0 d1 d2 d3
  have hr4:(r:Int) < rounds.length:=by have:=HRL.out;omega
  have hn3:(n:Int) < 3:=by omega
  have hri:(r:Int) + 1≤4:=by omega
  have hl2:=(wel_at hwel r hr).2
  have hsp:=fun a c w (hR:Row .i64 w a (pe.rounds.getD r rnd0).pro)=>specChoice_any a c (pe.rounds.getD r rnd0).pro mask (coF pe.has coin) w hR (by omega)
  rw [hl2] at hsp
  generalize hpr:proA pe.rounds r n=PP at *
  clear hpr hIR hl2 hPW Rx
  by_cases hp3:PP=3
  case pos=>
   have E1:Hid (D=8∧E=ine0∧K0=0∧K1=false∧K2=false∧K3=0):=F8.out hp3
   have hq:(PP == 3)=true:=by rw [hp3];rfl
   clear F8 FC1 F61 F01 hp3 hLE hcp hsp
   go_wp2_with fail
   refine (l6Bad_any 8 _).mono ?_
   rintro e w8 ⟨rfl,hb8⟩
   replace hB:=hB.trans (hb8.mono hB.size)
   replace Rb:=Rb.below hb8
   clear hb8
   have Rr:=Rb.row #[.int .i64 8,.int .i64 0,.bool false,.bool false,.int .i64 0,.bool false,.slice none 0 0,.slice none 0 0,.slice none 0 0]
   have hBr:=below_row hB (g:=w.heap.size) (by omega) #[.int .i64 8,.int .i64 0,.bool false,.bool false,.int .i64 0,.bool false,.slice none 0 0,.slice none 0 0,.slice none 0 0]
   have hsr:(Tryz.prog.info? 39).map (·.size)=some (#[.int .i64 8,.int .i64 0,.bool false,.bool false,.int .i64 0,.bool false,.slice none 0 0,.slice none 0 0,.slice none 0 0]:Array Value).size:=sz_res
   go_wp2_with (first | (refine st_row (by kernel_rfl) 39 _ _ rfl _ #[.int .i64 8,.int .i64 0,.bool false,.bool false,.int .i64 0,.bool false,.slice none 0 0,.slice none 0 0,.slice none 0 0] rfl rfl 39 _ Rb hsr rfl (by simp [Value.oneCell']) ?_))
   obtain ⟨q0,q1,q2,q3,q4,q5,q6,q7,q8⟩:=Rr.cel9
   exact bodyPost_ret (v:=.agg #[.int .i64 8,.int .i64 0,.bool false,.bool false,.int .i64 0,.bool false,.slice none 0 0,.slice none 0 0,.slice none 0 0]) (by simp [results,Tryz.results50,go_sem,q0,q1,q2,q3,q4,q5,q6,q7,q8]) rfl ⟨inst0,by rw [E1.out.1,E1.out.2.2.1,E1.out.2.2.2.1,E1.out.2.2.2.2.1,E1.out.2.2.2.2.2];rfl,E1.out.2.1.symm,inst0_own _,inst0_nd,fun k hk=>by rw [inst0_ft] at hk;simp at hk,hBr⟩

  case neg=>
   have hq:(PP == 3)=false:=by simpa using hp3
   have FC:Hid _:=FC1.out hp3
   have F6:Hid _:=F61.out hp3
   have F0:Hid _:=F01.out hp3
   clear FC1 F61 F01 F8 hp3
   have HCO:Hid (coF pe.has coin=if coin=1∧has=false then 0 else coin):=by
    show coF pe.has coin=_
    rw [HH.out]
    rfl
   generalize chC (pe.rounds.getD r rnd0).pro mask (coF pe.has coin)=CC at *
   generalize cfD (pe.rounds.getD r rnd0).pro mask (coF pe.has coin)=CD at *
   generalize cfK (pe.rounds.getD r rnd0).pro mask (coF pe.has coin)=CK at *
   generalize cfV (pe.rounds.getD r rnd0).pro mask (coF pe.has coin)=CV at *
   generalize coF pe.has coin=co at *
   by_cases hc1:coin=1
   ·have hco' : (coin == 1)=true:=by rw [hc1];rfl
    cases has with
    | true=>
     have e:co=coin:=by rw [HCO.out];exact if_neg (fun h=>by simp at h)
     subst e
     clear HCO hc1
     go_wp2_with fail
     clear kx ky k0 k1 d0 d1 d2 d3 hq hco'
     refine (hsp _ _ w1 (Ry.below hB)).mono ?_
     rintro e w2 ⟨rfl,hb2⟩
     have hbA:Below w2.heap.size w2 (w2.alloc (.cells #[.int .i64 CC,.bool CD,.bool CK,.int .i64 CV] 37)):=by go_grown
     have BC:=Blk.new w2 37 #[.int .i64 CC,.bool CD,.bool CK,.int .i64 CV]
     have h12:w.heap.size < w2.heap.size:=(Rb.below hb2).lt
     replace Rb:=(Rb.below hb2).below hbA
     replace hB:=hB.trans (hb2.mono hB.size)
     replace hB:=hB.trans (hbA.mono hB.size)
     clear hb2 hsp hbA
     by_cases hcc:CC=0
     case neg=>
      have E1:Hid (D=CC∧E=ine0∧K0=0∧K1=false∧K2=false∧K3=0):=FC.out hcc
      have h0' : (CC != 0)=true:=by simpa using hcc
      clear FC F6 F0 hcc hLE hcp
      go_wp2_with fail
      refine (l6Bad_any CC _).mono ?_
      rintro e w8 ⟨rfl,hb8⟩
      replace hB:=hB.trans (hb8.mono hB.size)
      replace Rb:=Rb.below hb8
      clear hb8
      have Rr:=Rb.row #[.int .i64 CC,.int .i64 0,.bool false,.bool false,.int .i64 0,.bool false,.slice none 0 0,.slice none 0 0,.slice none 0 0]
      have hBr:=below_row hB (g:=w.heap.size) (by omega) #[.int .i64 CC,.int .i64 0,.bool false,.bool false,.int .i64 0,.bool false,.slice none 0 0,.slice none 0 0,.slice none 0 0]
      have hsr:(Tryz.prog.info? 39).map (·.size)=some (#[.int .i64 CC,.int .i64 0,.bool false,.bool false,.int .i64 0,.bool false,.slice none 0 0,.slice none 0 0,.slice none 0 0]:Array Value).size:=sz_res
      go_wp2_with (first | (refine st_row (by kernel_rfl) 39 _ _ rfl _ #[.int .i64 CC,.int .i64 0,.bool false,.bool false,.int .i64 0,.bool false,.slice none 0 0,.slice none 0 0,.slice none 0 0] rfl rfl 39 _ Rb hsr rfl (by simp [Value.oneCell']) ?_))
      obtain ⟨q0,q1,q2,q3,q4,q5,q6,q7,q8⟩:=Rr.cel9
      exact bodyPost_ret (v:=.agg #[.int .i64 CC,.int .i64 0,.bool false,.bool false,.int .i64 0,.bool false,.slice none 0 0,.slice none 0 0,.slice none 0 0]) (by simp [results,Tryz.results50,go_sem,q0,q1,q2,q3,q4,q5,q6,q7,q8]) rfl ⟨inst0,by rw [E1.out.1,E1.out.2.2.1,E1.out.2.2.2.1,E1.out.2.2.2.2.1,E1.out.2.2.2.2.2];rfl,E1.out.2.1.symm,inst0_own _,inst0_nd,fun k hk=>by rw [inst0_ft] at hk;simp at hk,hBr⟩

     case pos=>
      replace F6:Hid _:=F6.out hcc
      replace F0:Hid _:=F0.out hcc
      subst hcc
      clear FC
      have hPW2:=hP.below hB
      obtain ⟨d0,d1,d2,d3⟩:=hPW2.box
      dsimp only at d0 d1 d2 d3
      go_wp2_with fail
      clear d0 d1 d2 d3 hPW2
      have hYY:w2.heap.size < (w2.alloc (.cells #[.int .i64 0,.bool CD,.bool CK,.int .i64 CV] 37)).heap.size:=by simp
      generalize (w2.alloc (.cells #[.int .i64 0,.bool CD,.bool CK,.int .i64 CV] 37))=Y at *
      refine (hcp Y (hrb Y hB)).mono ?_
      rintro e w3 ⟨q,rfl,eq,oq,nq,gq,hb3⟩
      have hY3:Y.heap.size≤w3.heap.size:=hb3.size
      replace Rb:=Rb.below hb3
      replace BC:=BC.below hb3
      replace hB:=hB.trans (hb3.mono hB.size)
      have M:=instK.own_lt oq
      have hQE:q.e.rounds=pe.rounds:=by rw [eq]
      have hQl:q.rounds.length=pe.rounds.length:=by rw [← hQE];exact (List.length_map _).symm
      have HED:Hid (q.e=pe):=eq
      have hdq:q.dec.length=3:=by
       have:q.e.dec=pe.dec:=by rw [eq]
       have h9:q.dec=pe.dec:=this
       rw [h9]
       exact HD3.out
      clear hb3 hcp eq
      obtain ⟨qh,qb,qbs,qr,qrs,qd,qds⟩:=q
      obtain ⟨s1,t1,rfl⟩:∃ a c,qb=.slice a qbs.length c:=oq.1.shape
      obtain ⟨s2,t2,rfl⟩:∃ a c,qr=.slice a qrs.length c:=oq.2.1.shape
      obtain ⟨s3,t3,rfl⟩:∃ a c,qd=.slice a qds.length c:=oq.2.2.shape
      cases CD with
      | true=>
       simp only [if_true] at F0
       obtain ⟨g5,cap5,hv5,hg5,kc,kf,own5,foot5⟩:=own_setD oq nq n (by show n < qds.length;have:qds.length=3:=hdq;omega) CV
       have hdl:qds.length=3:=hdq
       replace hv5:(Value.slice s3 qds.length t3)=.slice (some ⟨g5,0,none⟩) qds.length cap5:=hv5
       simp only [Value.slice.injEq,true_and] at hv5
       obtain ⟨rfl,rfl⟩:=hv5
       have hg5l:Y.heap.size≤g5∧g5 < w3.heap.size:=⟨gq g5 hg5,M g5 hg5⟩
       have hss:(w3.setCell ⟨g5,n,none⟩ (iv CV)).heap.size=w3.heap.size:=by simp
       have hbA:Below (w3.setCell ⟨g5,n,none⟩ (iv CV)).heap.size (w3.setCell ⟨g5,n,none⟩ (iv CV)) ((w3.setCell ⟨g5,n,none⟩ (iv CV)).alloc (.cells #[.bool qh,.slice s1 qbs.length t1,.slice s2 qrs.length t2,.slice (some ⟨g5,0,none⟩) qds.length t3] 28)):=by go_grown
       have Gz:=Blk.new (w3.setCell ⟨g5,n,none⟩ (iv CV)) 28 #[.bool qh,.slice s1 qbs.length t1,.slice s2 qrs.length t2,.slice (some ⟨g5,0,none⟩) qds.length t3]
       rw [hss] at Gz
       replace Rb:=(Rb.other (b' := g5) (by omega) n (iv CV)).below hbA
       have hAl:Below w3.heap.size w3 (w3.alloc (.cells #[.bool qh,.slice s1 qbs.length t1,.slice s2 qrs.length t2,.slice (some ⟨g5,0,none⟩) qds.length t3] 28)):=by go_grown
       have a1:=BC.cell 1 _ rfl
       have a3:=BC.cell 3 _ rfl
       have e1:=cellB a1 hAl
       have e3:=cellB a3 hAl
       clear hAl
       replace BC:=(BC.other (b' := g5) (by omega) n (iv CV)).below hbA
       have hB1:Below w.heap.size w (w3.setCell ⟨g5,n,none⟩ (iv CV)):=hB.setCell (p:=⟨g5,n,none⟩) (by show w.heap.size≤g5;omega) _
       replace hB:=hB1.trans (hbA.mono hB1.size)
       replace own5:=instK.own_out (F:=[]) own5 (Out.of_below hbA) (fun _ _=>by simp)
       have L5:∀ k∈instK.foot (InstQ.setD (⟨qh,.slice s1 qbs.length t1,qbs,.slice s2 qrs.length t2,qrs,.slice (some ⟨g5,0,none⟩) qds.length t3,qds⟩:InstQ) n CV),Y.heap.size≤k:=fun k hk=>by rw [foot5] at hk;exact gq k hk
       have M5:∀ k∈instK.foot (InstQ.setD (⟨qh,.slice s1 qbs.length t1,qbs,.slice s2 qrs.length t2,qrs,.slice (some ⟨g5,0,none⟩) qds.length t3,qds⟩:InstQ) n CV),k < w3.heap.size:=fun k hk=>by rw [foot5] at hk;exact M k hk
       have nq5:(instK.foot (InstQ.setD (⟨qh,.slice s1 qbs.length t1,qbs,.slice s2 qrs.length t2,qrs,.slice (some ⟨g5,0,none⟩) qds.length t3,qds⟩:InstQ) n CV)).Nodup:=by rw [foot5];exact nq
       have hQR:(InstQ.setD (⟨qh,.slice s1 qbs.length t1,qbs,.slice s2 qrs.length t2,qrs,.slice (some ⟨g5,0,none⟩) qds.length t3,qds⟩:InstQ) n CV).e=⟨pe.has,pe.batch,pe.rounds,pe.dec.set n CV⟩:=by rw [setD_e,HED.out]
       have hwelQ:Wel (InstQ.setD (⟨qh,.slice s1 qbs.length t1,qbs,.slice s2 qrs.length t2,qrs,.slice (some ⟨g5,0,none⟩) qds.length t3,qds⟩:InstQ) n CV).e.rounds:=by rw [hQR];exact hwel
       have h4Q:(InstQ.setD (⟨qh,.slice s1 qbs.length t1,qbs,.slice s2 qrs.length t2,qrs,.slice (some ⟨g5,0,none⟩) qds.length t3,qds⟩:InstQ) n CV).rounds.length≤4:=by show qrs.length≤4;have:qrs.length=pe.rounds.length:=hQl;omega
       have h0Q:0 < (InstQ.setD (⟨qh,.slice s1 qbs.length t1,qbs,.slice s2 qrs.length t2,qrs,.slice (some ⟨g5,0,none⟩) qds.length t3,qds⟩:InstQ) n CV).rounds.length:=by show 0 < qrs.length;have:qrs.length=pe.rounds.length:=hQl;omega
       have hnxQ:r + 1≤(InstQ.setD (⟨qh,.slice s1 qbs.length t1,qbs,.slice s2 qrs.length t2,qrs,.slice (some ⟨g5,0,none⟩) qds.length t3,qds⟩:InstQ) n CV).rounds.length:=by show r + 1≤qrs.length;have:qrs.length=pe.rounds.length:=hQl;omega
       obtain ⟨old,kc2⟩:∃ z,w3.cell? ⟨g5,n,none⟩=some (iv z):=⟨_,kc⟩
       obtain ⟨c0,c1,c2,c3⟩:=BC.cel4
       clear kc hbA hB1 foot5 oq nq gq M hQE hdq hQl
       have hn4:(n:Int) < qds.length:=by omega
       clear hdl
       go_wp2_with fail
       clear c0 c1 c2 c3 a1 a3 e1 e3 kc2 kf
       have hgx:=Gz.lt
       generalize (w3.setCell ⟨g5,n,none⟩ (iv CV)).alloc (.cells #[.bool qh,.slice s1 qbs.length t1,.slice s2 qrs.length t2,.slice (some ⟨g5,0,none⟩) qds.length t3] 28)=X at *
       have hrep:Calls Tryz.prog 84 #[.pointer (some ⟨w3.heap.size,0,none⟩),.int .i64 (n:Int),.int .i64 ((r:Int) + 1),.int .i64 CV] X _:=l6Report_any w3.heap.size (InstQ.setD (⟨qh,.slice s1 qbs.length t1,qbs,.slice s2 qrs.length t2,qrs,.slice (some ⟨g5,0,none⟩) qds.length t3,qds⟩:InstQ) n CV) n (r + 1) CV X Gz own5 nq5 (fun hx=>by have:=M5 _ hx;omega) hwelQ h4Q h0Q hnxQ hn
       refine hrep.mono ?_
       rintro e X6 ⟨q6,rfl,e6,G6,own6,nq6,ft6,hU6⟩
       clear hrep
       have hlow:∀ k∈w3.heap.size :: instK.foot (InstQ.setD (⟨qh,.slice s1 qbs.length t1,qbs,.slice s2 qrs.length t2,qrs,.slice (some ⟨g5,0,none⟩) qds.length t3,qds⟩:InstQ) n CV),Y.heap.size≤k:=fun k hk=>by
        rcases List.mem_cons.1 hk with rfl | hk
        ·exact hY3
        ·exact L5 k hk
       replace Rb:Blk X6 w.heap.size 39 _:=(hU6.block _ Rb.lt (fun hx=>by have:=hlow _ hx;omega)).trans Rb
       replace BC:Blk X6 w2.heap.size 37 _:=(hU6.block _ BC.lt (fun hx=>by have:=hlow _ hx;omega)).trans BC
       replace hB:=Out.keep hB hU6 hB.size (fun k hk=>by have:=hlow k hk;omega)
       have HFT:Hid (∀ k∈instK.foot q6,w.heap.size < k):=fun k hk=>by
        rcases ft6 k hk with h | h
        ·have:=L5 k h;omega
        ·omega
       have HE6:Hid (q6.e=_):=e6
       rw [hQR] at HE6
       rw [hQR]
       clear Gz own5 nq5 L5 M5 hlow hU6 ft6 e6 hQR hwelQ
       generalize rpC pe.rounds (r + 1) n=RC at *
       by_cases hrc:RC=0
       case neg=>
        have E1:Hid (D=RC∧E=ine0∧K0=0∧K1=false∧K2=false∧K3=0):=F6.out hrc
        have hrc' : (RC != 0)=true:=by simpa using hrc
        clear F6 F0 hrc
        go_wp2_with fail
        refine (l6Bad_any RC _).mono ?_
        rintro e w8 ⟨rfl,hb8⟩
        replace hB:=hB.trans (hb8.mono hB.size)
        replace Rb:=Rb.below hb8
        clear hb8
        have Rr:=Rb.row #[.int .i64 RC,.int .i64 0,.bool false,.bool false,.int .i64 0,.bool false,.slice none 0 0,.slice none 0 0,.slice none 0 0]
        have hBr:=below_row hB (g:=w.heap.size) (by omega) #[.int .i64 RC,.int .i64 0,.bool false,.bool false,.int .i64 0,.bool false,.slice none 0 0,.slice none 0 0,.slice none 0 0]
        have hsr:(Tryz.prog.info? 39).map (·.size)=some (#[.int .i64 RC,.int .i64 0,.bool false,.bool false,.int .i64 0,.bool false,.slice none 0 0,.slice none 0 0,.slice none 0 0]:Array Value).size:=sz_res
        go_wp2_with (first | (refine st_row (by kernel_rfl) 39 _ _ rfl _ #[.int .i64 RC,.int .i64 0,.bool false,.bool false,.int .i64 0,.bool false,.slice none 0 0,.slice none 0 0,.slice none 0 0] rfl rfl 39 _ Rb hsr rfl (by simp [Value.oneCell']) ?_))
        obtain ⟨q0,q1,q2,q3,q4,q5,q6,q7,q8⟩:=Rr.cel9
        exact bodyPost_ret (v:=.agg #[.int .i64 RC,.int .i64 0,.bool false,.bool false,.int .i64 0,.bool false,.slice none 0 0,.slice none 0 0,.slice none 0 0]) (by simp [results,Tryz.results50,go_sem,q0,q1,q2,q3,q4,q5,q6,q7,q8]) rfl ⟨inst0,by rw [E1.out.1,E1.out.2.2.1,E1.out.2.2.2.1,E1.out.2.2.2.2.1,E1.out.2.2.2.2.2];rfl,E1.out.2.1.symm,inst0_own _,inst0_nd,fun k hk=>by rw [inst0_ft] at hk;simp at hk,hBr⟩

       case pos=>
        have E1:Hid _:=F0.out hrc
        subst hrc
        clear F6 F0
        have hous:∀ cs,instK.own (X6.setRow w.heap.size cs) q6:=fun cs=>instK.own_out own6 (out_row _ w.heap.size cs) (fun k hk=>by have:=HFT.out k hk;simp only [List.mem_singleton];omega)
        have HQ:Hid (q6.e=E∧(instK.foot q6).Nodup∧(∀ k∈instK.foot q6,w.heap.size≤k)∧∀ cs,instK.own (X6.setRow w.heap.size cs) q6):=⟨by rw [E1.out.2.1];exact HE6.out,nq6,fun k hk=>by have:=HFT.out k hk;omega,hous⟩
        have HD0:Hid (D=0∧K0=0∧K1=true∧K2=CK∧K3=CV):=⟨E1.out.1,E1.out.2.2⟩
        clear E1 HE6 hous nq6 HFT
        obtain ⟨jh,jb,jbs,jr,jrs,jd,jds⟩:=q6
        obtain ⟨j1,u1,rfl⟩:∃ a c,jb=.slice a jbs.length c:=own6.1.shape
        obtain ⟨j2,u2,rfl⟩:∃ a c,jr=.slice a jrs.length c:=own6.2.1.shape
        obtain ⟨j3,u3,rfl⟩:∃ a c,jd=.slice a jds.length c:=own6.2.2.shape
        clear own6
        have Rr:=Rb.row #[.int .i64 0,.int .i64 0,.bool true,.bool CK,.int .i64 CV,.bool jh,.slice j1 jbs.length u1,.slice j2 jrs.length u2,.slice j3 jds.length u3]
        have hBr:=below_row hB (g:=w.heap.size) (Nat.le_refl _) #[.int .i64 0,.int .i64 0,.bool true,.bool CK,.int .i64 CV,.bool jh,.slice j1 jbs.length u1,.slice j2 jrs.length u2,.slice j3 jds.length u3]
        have hsr:(Tryz.prog.info? 39).map (·.size)=some (#[.int .i64 0,.int .i64 0,.bool true,.bool CK,.int .i64 CV,.bool jh,.slice j1 jbs.length u1,.slice j2 jrs.length u2,.slice j3 jds.length u3]:Array Value).size:=sz_res
        obtain ⟨z0,z1,z2,z3⟩:=G6.cel4
        obtain ⟨c0,c1,c2,c3⟩:=BC.cel4
        dsimp only at z0 z1 z2 z3
        go_wp2_with (first | (refine st_row (by kernel_rfl) 39 _ _ rfl _ #[.int .i64 0,.int .i64 0,.bool true,.bool CK,.int .i64 CV,.bool jh,.slice j1 jbs.length u1,.slice j2 jrs.length u2,.slice j3 jds.length u3] rfl rfl 39 _ Rb hsr rfl (by simp [Value.oneCell']) ?_))
        obtain ⟨q0,q1,q2,q3,q4,q5,q6,q7,q8⟩:=Rr.cel9
        exact bodyPost_ret (v:=.agg #[.int .i64 0,.int .i64 0,.bool true,.bool CK,.int .i64 CV,.bool jh,.slice j1 jbs.length u1,.slice j2 jrs.length u2,.slice j3 jds.length u3]) (by simp [results,Tryz.results50,go_sem,q0,q1,q2,q3,q4,q5,q6,q7,q8]) rfl ⟨⟨jh,.slice j1 jbs.length u1,jbs,.slice j2 jrs.length u2,jrs,.slice j3 jds.length u3,jds⟩,by rw [HD0.out.1,HD0.out.2.1,HD0.out.2.2.1,HD0.out.2.2.2.1,HD0.out.2.2.2.2],HQ.out.1,HQ.out.2.2.2 _,HQ.out.2.1,HQ.out.2.2.1,hBr⟩

      | false=>
       simp only [Bool.false_eq_true,if_false] at F0
       have hbA:Below w3.heap.size w3 (w3.alloc (.cells #[.bool qh,.slice s1 qbs.length t1,.slice s2 qrs.length t2,.slice s3 qds.length t3] 28)):=by go_grown
       have Gz:=Blk.new w3 28 #[.bool qh,.slice s1 qbs.length t1,.slice s2 qrs.length t2,.slice s3 qds.length t3]
       replace Rb:=Rb.below hbA
       have c1:=BC.cell 1 _ rfl
       have c3:=BC.cell 3 _ rfl
       replace BC:=BC.below hbA
       have c0:=BC.cell 1 _ rfl
       have c2:=BC.cell 3 _ rfl
       replace hB:=hB.trans (hbA.mono hB.size)
       have own5:=instK.own_out (F:=[]) oq (Out.of_below hbA) (fun _ _=>by simp)
       have L5:=gq
       have M5:=M
       have nq5:=nq
       have hQR:(InstQ.e (⟨qh,.slice s1 qbs.length t1,qbs,.slice s2 qrs.length t2,qrs,.slice s3 qds.length t3,qds⟩:InstQ))=⟨pe.has,pe.batch,pe.rounds,pe.dec⟩:=HED.out
       have hwelQ:Wel (InstQ.e (⟨qh,.slice s1 qbs.length t1,qbs,.slice s2 qrs.length t2,qrs,.slice s3 qds.length t3,qds⟩:InstQ)).rounds:=by rw [hQR];exact hwel
       have h4Q:(InstQ.rounds (⟨qh,.slice s1 qbs.length t1,qbs,.slice s2 qrs.length t2,qrs,.slice s3 qds.length t3,qds⟩:InstQ)).length≤4:=by show qrs.length≤4;have:qrs.length=pe.rounds.length:=hQl;omega
       have h0Q:0 < (InstQ.rounds (⟨qh,.slice s1 qbs.length t1,qbs,.slice s2 qrs.length t2,qrs,.slice s3 qds.length t3,qds⟩:InstQ)).length:=by show 0 < qrs.length;have:qrs.length=pe.rounds.length:=hQl;omega
       have hnxQ:r + 1≤(InstQ.rounds (⟨qh,.slice s1 qbs.length t1,qbs,.slice s2 qrs.length t2,qrs,.slice s3 qds.length t3,qds⟩:InstQ)).length:=by show r + 1≤qrs.length;have:qrs.length=pe.rounds.length:=hQl;omega
       clear hbA oq nq gq M hQE hQl hdq
       go_wp2_with fail
       clear c0 c1 c2 c3
       have hgx:=Gz.lt
       generalize w3.alloc (.cells #[.bool qh,.slice s1 qbs.length t1,.slice s2 qrs.length t2,.slice s3 qds.length t3] 28)=X at *
       have hrep:Calls Tryz.prog 84 #[.pointer (some ⟨w3.heap.size,0,none⟩),.int .i64 (n:Int),.int .i64 ((r:Int) + 1),.int .i64 CV] X _:=l6Report_any w3.heap.size (⟨qh,.slice s1 qbs.length t1,qbs,.slice s2 qrs.length t2,qrs,.slice s3 qds.length t3,qds⟩:InstQ) n (r + 1) CV X Gz own5 nq5 (fun hx=>by have:=M5 _ hx;omega) hwelQ h4Q h0Q hnxQ hn
       refine hrep.mono ?_
       rintro e X6 ⟨q6,rfl,e6,G6,own6,nq6,ft6,hU6⟩
       clear hrep
       have hlow:∀ k∈w3.heap.size :: instK.foot (⟨qh,.slice s1 qbs.length t1,qbs,.slice s2 qrs.length t2,qrs,.slice s3 qds.length t3,qds⟩:InstQ),Y.heap.size≤k:=fun k hk=>by
        rcases List.mem_cons.1 hk with rfl | hk
        ·exact hY3
        ·exact L5 k hk
       replace Rb:Blk X6 w.heap.size 39 _:=(hU6.block _ Rb.lt (fun hx=>by have:=hlow _ hx;omega)).trans Rb
       replace BC:Blk X6 w2.heap.size 37 _:=(hU6.block _ BC.lt (fun hx=>by have:=hlow _ hx;omega)).trans BC
       replace hB:=Out.keep hB hU6 hB.size (fun k hk=>by have:=hlow k hk;omega)
       have HFT:Hid (∀ k∈instK.foot q6,w.heap.size < k):=fun k hk=>by
        rcases ft6 k hk with h | h
        ·have:=L5 k h;omega
        ·omega
       have HE6:Hid (q6.e=_):=e6
       rw [hQR] at HE6
       rw [hQR]
       clear Gz own5 nq5 L5 M5 hlow hU6 ft6 e6 hQR hwelQ
       generalize rpC pe.rounds (r + 1) n=RC at *
       by_cases hrc:RC=0
       case neg=>
        have E1:Hid (D=RC∧E=ine0∧K0=0∧K1=false∧K2=false∧K3=0):=F6.out hrc
        have hrc' : (RC != 0)=true:=by simpa using hrc
        clear F6 F0 hrc
        go_wp2_with fail
        refine (l6Bad_any RC _).mono ?_
        rintro e w8 ⟨rfl,hb8⟩
        replace hB:=hB.trans (hb8.mono hB.size)
        replace Rb:=Rb.below hb8
        clear hb8
        have Rr:=Rb.row #[.int .i64 RC,.int .i64 0,.bool false,.bool false,.int .i64 0,.bool false,.slice none 0 0,.slice none 0 0,.slice none 0 0]
        have hBr:=below_row hB (g:=w.heap.size) (by omega) #[.int .i64 RC,.int .i64 0,.bool false,.bool false,.int .i64 0,.bool false,.slice none 0 0,.slice none 0 0,.slice none 0 0]
        have hsr:(Tryz.prog.info? 39).map (·.size)=some (#[.int .i64 RC,.int .i64 0,.bool false,.bool false,.int .i64 0,.bool false,.slice none 0 0,.slice none 0 0,.slice none 0 0]:Array Value).size:=sz_res
        go_wp2_with (first | (refine st_row (by kernel_rfl) 39 _ _ rfl _ #[.int .i64 RC,.int .i64 0,.bool false,.bool false,.int .i64 0,.bool false,.slice none 0 0,.slice none 0 0,.slice none 0 0] rfl rfl 39 _ Rb hsr rfl (by simp [Value.oneCell']) ?_))
        obtain ⟨q0,q1,q2,q3,q4,q5,q6,q7,q8⟩:=Rr.cel9
        exact bodyPost_ret (v:=.agg #[.int .i64 RC,.int .i64 0,.bool false,.bool false,.int .i64 0,.bool false,.slice none 0 0,.slice none 0 0,.slice none 0 0]) (by simp [results,Tryz.results50,go_sem,q0,q1,q2,q3,q4,q5,q6,q7,q8]) rfl ⟨inst0,by rw [E1.out.1,E1.out.2.2.1,E1.out.2.2.2.1,E1.out.2.2.2.2.1,E1.out.2.2.2.2.2];rfl,E1.out.2.1.symm,inst0_own _,inst0_nd,fun k hk=>by rw [inst0_ft] at hk;simp at hk,hBr⟩

       case pos=>
        have E1:Hid _:=F0.out hrc
        subst hrc
        clear F6 F0
        have hous:∀ cs,instK.own (X6.setRow w.heap.size cs) q6:=fun cs=>instK.own_out own6 (out_row _ w.heap.size cs) (fun k hk=>by have:=HFT.out k hk;simp only [List.mem_singleton];omega)
        have HQ:Hid (q6.e=E∧(instK.foot q6).Nodup∧(∀ k∈instK.foot q6,w.heap.size≤k)∧∀ cs,instK.own (X6.setRow w.heap.size cs) q6):=⟨by rw [E1.out.2.1];exact HE6.out,nq6,fun k hk=>by have:=HFT.out k hk;omega,hous⟩
        have HD0:Hid (D=0∧K0=0∧K1=false∧K2=CK∧K3=CV):=⟨E1.out.1,E1.out.2.2⟩
        clear E1 HE6 hous nq6 HFT
        obtain ⟨jh,jb,jbs,jr,jrs,jd,jds⟩:=q6
        obtain ⟨j1,u1,rfl⟩:∃ a c,jb=.slice a jbs.length c:=own6.1.shape
        obtain ⟨j2,u2,rfl⟩:∃ a c,jr=.slice a jrs.length c:=own6.2.1.shape
        obtain ⟨j3,u3,rfl⟩:∃ a c,jd=.slice a jds.length c:=own6.2.2.shape
        clear own6
        have Rr:=Rb.row #[.int .i64 0,.int .i64 0,.bool false,.bool CK,.int .i64 CV,.bool jh,.slice j1 jbs.length u1,.slice j2 jrs.length u2,.slice j3 jds.length u3]
        have hBr:=below_row hB (g:=w.heap.size) (Nat.le_refl _) #[.int .i64 0,.int .i64 0,.bool false,.bool CK,.int .i64 CV,.bool jh,.slice j1 jbs.length u1,.slice j2 jrs.length u2,.slice j3 jds.length u3]
        have hsr:(Tryz.prog.info? 39).map (·.size)=some (#[.int .i64 0,.int .i64 0,.bool false,.bool CK,.int .i64 CV,.bool jh,.slice j1 jbs.length u1,.slice j2 jrs.length u2,.slice j3 jds.length u3]:Array Value).size:=sz_res
        obtain ⟨z0,z1,z2,z3⟩:=G6.cel4
        obtain ⟨c0,c1,c2,c3⟩:=BC.cel4
        dsimp only at z0 z1 z2 z3
        go_wp2_with (first | (refine st_row (by kernel_rfl) 39 _ _ rfl _ #[.int .i64 0,.int .i64 0,.bool false,.bool CK,.int .i64 CV,.bool jh,.slice j1 jbs.length u1,.slice j2 jrs.length u2,.slice j3 jds.length u3] rfl rfl 39 _ Rb hsr rfl (by simp [Value.oneCell']) ?_))
        obtain ⟨q0,q1,q2,q3,q4,q5,q6,q7,q8⟩:=Rr.cel9
        exact bodyPost_ret (v:=.agg #[.int .i64 0,.int .i64 0,.bool false,.bool CK,.int .i64 CV,.bool jh,.slice j1 jbs.length u1,.slice j2 jrs.length u2,.slice j3 jds.length u3]) (by simp [results,Tryz.results50,go_sem,q0,q1,q2,q3,q4,q5,q6,q7,q8]) rfl ⟨⟨jh,.slice j1 jbs.length u1,jbs,.slice j2 jrs.length u2,jrs,.slice j3 jds.length u3,jds⟩,by rw [HD0.out.1,HD0.out.2.1,HD0.out.2.2.1,HD0.out.2.2.2.1,HD0.out.2.2.2.2],HQ.out.1,HQ.out.2.2.2 _,HQ.out.2.1,HQ.out.2.2.1,hBr⟩

    | false=>
     have e:co=0:=by rw [HCO.out];exact if_pos ⟨hc1,rfl⟩
     subst e
     clear HCO hc1
     go_wp2_with fail
     clear kx ky k0 k1 d0 d1 d2 d3 hq hco'
     refine (hsp _ _ w1 (Ry.below hB)).mono ?_
     rintro e w2 ⟨rfl,hb2⟩
     have hbA:Below w2.heap.size w2 (w2.alloc (.cells #[.int .i64 CC,.bool CD,.bool CK,.int .i64 CV] 37)):=by go_grown
     have BC:=Blk.new w2 37 #[.int .i64 CC,.bool CD,.bool CK,.int .i64 CV]
     have h12:w.heap.size < w2.heap.size:=(Rb.below hb2).lt
     replace Rb:=(Rb.below hb2).below hbA
     replace hB:=hB.trans (hb2.mono hB.size)
     replace hB:=hB.trans (hbA.mono hB.size)
     clear hb2 hsp hbA
     by_cases hcc:CC=0
     case neg=>
      have E1:Hid (D=CC∧E=ine0∧K0=0∧K1=false∧K2=false∧K3=0):=FC.out hcc
      have h0' : (CC != 0)=true:=by simpa using hcc
      clear FC F6 F0 hcc hLE hcp
      go_wp2_with fail
      refine (l6Bad_any CC _).mono ?_
      rintro e w8 ⟨rfl,hb8⟩
      replace hB:=hB.trans (hb8.mono hB.size)
      replace Rb:=Rb.below hb8
      clear hb8
      have Rr:=Rb.row #[.int .i64 CC,.int .i64 0,.bool false,.bool false,.int .i64 0,.bool false,.slice none 0 0,.slice none 0 0,.slice none 0 0]
      have hBr:=below_row hB (g:=w.heap.size) (by omega) #[.int .i64 CC,.int .i64 0,.bool false,.bool false,.int .i64 0,.bool false,.slice none 0 0,.slice none 0 0,.slice none 0 0]
      have hsr:(Tryz.prog.info? 39).map (·.size)=some (#[.int .i64 CC,.int .i64 0,.bool false,.bool false,.int .i64 0,.bool false,.slice none 0 0,.slice none 0 0,.slice none 0 0]:Array Value).size:=sz_res
      go_wp2_with (first | (refine st_row (by kernel_rfl) 39 _ _ rfl _ #[.int .i64 CC,.int .i64 0,.bool false,.bool false,.int .i64 0,.bool false,.slice none 0 0,.slice none 0 0,.slice none 0 0] rfl rfl 39 _ Rb hsr rfl (by simp [Value.oneCell']) ?_))
      obtain ⟨q0,q1,q2,q3,q4,q5,q6,q7,q8⟩:=Rr.cel9
      exact bodyPost_ret (v:=.agg #[.int .i64 CC,.int .i64 0,.bool false,.bool false,.int .i64 0,.bool false,.slice none 0 0,.slice none 0 0,.slice none 0 0]) (by simp [results,Tryz.results50,go_sem,q0,q1,q2,q3,q4,q5,q6,q7,q8]) rfl ⟨inst0,by rw [E1.out.1,E1.out.2.2.1,E1.out.2.2.2.1,E1.out.2.2.2.2.1,E1.out.2.2.2.2.2];rfl,E1.out.2.1.symm,inst0_own _,inst0_nd,fun k hk=>by rw [inst0_ft] at hk;simp at hk,hBr⟩

     case pos=>
      replace F6:Hid _:=F6.out hcc
      replace F0:Hid _:=F0.out hcc
      subst hcc
      clear FC
      have hPW2:=hP.below hB
      obtain ⟨d0,d1,d2,d3⟩:=hPW2.box
      dsimp only at d0 d1 d2 d3
      go_wp2_with fail
      clear d0 d1 d2 d3 hPW2
      have hYY:w2.heap.size < (w2.alloc (.cells #[.int .i64 0,.bool CD,.bool CK,.int .i64 CV] 37)).heap.size:=by simp
      generalize (w2.alloc (.cells #[.int .i64 0,.bool CD,.bool CK,.int .i64 CV] 37))=Y at *
      refine (hcp Y (hrb Y hB)).mono ?_
      rintro e w3 ⟨q,rfl,eq,oq,nq,gq,hb3⟩
      have hY3:Y.heap.size≤w3.heap.size:=hb3.size
      replace Rb:=Rb.below hb3
      replace BC:=BC.below hb3
      replace hB:=hB.trans (hb3.mono hB.size)
      have M:=instK.own_lt oq
      have hQE:q.e.rounds=pe.rounds:=by rw [eq]
      have hQl:q.rounds.length=pe.rounds.length:=by rw [← hQE];exact (List.length_map _).symm
      have HED:Hid (q.e=pe):=eq
      have hdq:q.dec.length=3:=by
       have:q.e.dec=pe.dec:=by rw [eq]
       have h9:q.dec=pe.dec:=this
       rw [h9]
       exact HD3.out
      clear hb3 hcp eq
      obtain ⟨qh,qb,qbs,qr,qrs,qd,qds⟩:=q
      obtain ⟨s1,t1,rfl⟩:∃ a c,qb=.slice a qbs.length c:=oq.1.shape
      obtain ⟨s2,t2,rfl⟩:∃ a c,qr=.slice a qrs.length c:=oq.2.1.shape
      obtain ⟨s3,t3,rfl⟩:∃ a c,qd=.slice a qds.length c:=oq.2.2.shape
      cases CD with
      | true=>
       simp only [if_true] at F0
       obtain ⟨g5,cap5,hv5,hg5,kc,kf,own5,foot5⟩:=own_setD oq nq n (by show n < qds.length;have:qds.length=3:=hdq;omega) CV
       have hdl:qds.length=3:=hdq
       replace hv5:(Value.slice s3 qds.length t3)=.slice (some ⟨g5,0,none⟩) qds.length cap5:=hv5
       simp only [Value.slice.injEq,true_and] at hv5
       obtain ⟨rfl,rfl⟩:=hv5
       have hg5l:Y.heap.size≤g5∧g5 < w3.heap.size:=⟨gq g5 hg5,M g5 hg5⟩
       have hss:(w3.setCell ⟨g5,n,none⟩ (iv CV)).heap.size=w3.heap.size:=by simp
       have hbA:Below (w3.setCell ⟨g5,n,none⟩ (iv CV)).heap.size (w3.setCell ⟨g5,n,none⟩ (iv CV)) ((w3.setCell ⟨g5,n,none⟩ (iv CV)).alloc (.cells #[.bool qh,.slice s1 qbs.length t1,.slice s2 qrs.length t2,.slice (some ⟨g5,0,none⟩) qds.length t3] 28)):=by go_grown
       have Gz:=Blk.new (w3.setCell ⟨g5,n,none⟩ (iv CV)) 28 #[.bool qh,.slice s1 qbs.length t1,.slice s2 qrs.length t2,.slice (some ⟨g5,0,none⟩) qds.length t3]
       rw [hss] at Gz
       replace Rb:=(Rb.other (b' := g5) (by omega) n (iv CV)).below hbA
       have hAl:Below w3.heap.size w3 (w3.alloc (.cells #[.bool qh,.slice s1 qbs.length t1,.slice s2 qrs.length t2,.slice (some ⟨g5,0,none⟩) qds.length t3] 28)):=by go_grown
       have a1:=BC.cell 1 _ rfl
       have a3:=BC.cell 3 _ rfl
       have e1:=cellB a1 hAl
       have e3:=cellB a3 hAl
       clear hAl
       replace BC:=(BC.other (b' := g5) (by omega) n (iv CV)).below hbA
       have hB1:Below w.heap.size w (w3.setCell ⟨g5,n,none⟩ (iv CV)):=hB.setCell (p:=⟨g5,n,none⟩) (by show w.heap.size≤g5;omega) _
       replace hB:=hB1.trans (hbA.mono hB1.size)
       replace own5:=instK.own_out (F:=[]) own5 (Out.of_below hbA) (fun _ _=>by simp)
       have L5:∀ k∈instK.foot (InstQ.setD (⟨qh,.slice s1 qbs.length t1,qbs,.slice s2 qrs.length t2,qrs,.slice (some ⟨g5,0,none⟩) qds.length t3,qds⟩:InstQ) n CV),Y.heap.size≤k:=fun k hk=>by rw [foot5] at hk;exact gq k hk
       have M5:∀ k∈instK.foot (InstQ.setD (⟨qh,.slice s1 qbs.length t1,qbs,.slice s2 qrs.length t2,qrs,.slice (some ⟨g5,0,none⟩) qds.length t3,qds⟩:InstQ) n CV),k < w3.heap.size:=fun k hk=>by rw [foot5] at hk;exact M k hk
       have nq5:(instK.foot (InstQ.setD (⟨qh,.slice s1 qbs.length t1,qbs,.slice s2 qrs.length t2,qrs,.slice (some ⟨g5,0,none⟩) qds.length t3,qds⟩:InstQ) n CV)).Nodup:=by rw [foot5];exact nq
       have hQR:(InstQ.setD (⟨qh,.slice s1 qbs.length t1,qbs,.slice s2 qrs.length t2,qrs,.slice (some ⟨g5,0,none⟩) qds.length t3,qds⟩:InstQ) n CV).e=⟨pe.has,pe.batch,pe.rounds,pe.dec.set n CV⟩:=by rw [setD_e,HED.out]
       have hwelQ:Wel (InstQ.setD (⟨qh,.slice s1 qbs.length t1,qbs,.slice s2 qrs.length t2,qrs,.slice (some ⟨g5,0,none⟩) qds.length t3,qds⟩:InstQ) n CV).e.rounds:=by rw [hQR];exact hwel
       have h4Q:(InstQ.setD (⟨qh,.slice s1 qbs.length t1,qbs,.slice s2 qrs.length t2,qrs,.slice (some ⟨g5,0,none⟩) qds.length t3,qds⟩:InstQ) n CV).rounds.length≤4:=by show qrs.length≤4;have:qrs.length=pe.rounds.length:=hQl;omega
       have h0Q:0 < (InstQ.setD (⟨qh,.slice s1 qbs.length t1,qbs,.slice s2 qrs.length t2,qrs,.slice (some ⟨g5,0,none⟩) qds.length t3,qds⟩:InstQ) n CV).rounds.length:=by show 0 < qrs.length;have:qrs.length=pe.rounds.length:=hQl;omega
       have hnxQ:r + 1≤(InstQ.setD (⟨qh,.slice s1 qbs.length t1,qbs,.slice s2 qrs.length t2,qrs,.slice (some ⟨g5,0,none⟩) qds.length t3,qds⟩:InstQ) n CV).rounds.length:=by show r + 1≤qrs.length;have:qrs.length=pe.rounds.length:=hQl;omega
       obtain ⟨old,kc2⟩:∃ z,w3.cell? ⟨g5,n,none⟩=some (iv z):=⟨_,kc⟩
       obtain ⟨c0,c1,c2,c3⟩:=BC.cel4
       clear kc hbA hB1 foot5 oq nq gq M hQE hdq hQl
       have hn4:(n:Int) < qds.length:=by omega
       clear hdl
       go_wp2_with fail
       clear c0 c1 c2 c3 a1 a3 e1 e3 kc2 kf
       have hgx:=Gz.lt
       generalize (w3.setCell ⟨g5,n,none⟩ (iv CV)).alloc (.cells #[.bool qh,.slice s1 qbs.length t1,.slice s2 qrs.length t2,.slice (some ⟨g5,0,none⟩) qds.length t3] 28)=X at *
       have hrep:Calls Tryz.prog 84 #[.pointer (some ⟨w3.heap.size,0,none⟩),.int .i64 (n:Int),.int .i64 ((r:Int) + 1),.int .i64 CV] X _:=l6Report_any w3.heap.size (InstQ.setD (⟨qh,.slice s1 qbs.length t1,qbs,.slice s2 qrs.length t2,qrs,.slice (some ⟨g5,0,none⟩) qds.length t3,qds⟩:InstQ) n CV) n (r + 1) CV X Gz own5 nq5 (fun hx=>by have:=M5 _ hx;omega) hwelQ h4Q h0Q hnxQ hn
       refine hrep.mono ?_
       rintro e X6 ⟨q6,rfl,e6,G6,own6,nq6,ft6,hU6⟩
       clear hrep
       have hlow:∀ k∈w3.heap.size :: instK.foot (InstQ.setD (⟨qh,.slice s1 qbs.length t1,qbs,.slice s2 qrs.length t2,qrs,.slice (some ⟨g5,0,none⟩) qds.length t3,qds⟩:InstQ) n CV),Y.heap.size≤k:=fun k hk=>by
        rcases List.mem_cons.1 hk with rfl | hk
        ·exact hY3
        ·exact L5 k hk
       replace Rb:Blk X6 w.heap.size 39 _:=(hU6.block _ Rb.lt (fun hx=>by have:=hlow _ hx;omega)).trans Rb
       replace BC:Blk X6 w2.heap.size 37 _:=(hU6.block _ BC.lt (fun hx=>by have:=hlow _ hx;omega)).trans BC
       replace hB:=Out.keep hB hU6 hB.size (fun k hk=>by have:=hlow k hk;omega)
       have HFT:Hid (∀ k∈instK.foot q6,w.heap.size < k):=fun k hk=>by
        rcases ft6 k hk with h | h
        ·have:=L5 k h;omega
        ·omega
       have HE6:Hid (q6.e=_):=e6
       rw [hQR] at HE6
       rw [hQR]
       clear Gz own5 nq5 L5 M5 hlow hU6 ft6 e6 hQR hwelQ
       generalize rpC pe.rounds (r + 1) n=RC at *
       by_cases hrc:RC=0
       case neg=>
        have E1:Hid (D=RC∧E=ine0∧K0=0∧K1=false∧K2=false∧K3=0):=F6.out hrc
        have hrc' : (RC != 0)=true:=by simpa using hrc
        clear F6 F0 hrc
        go_wp2_with fail
        refine (l6Bad_any RC _).mono ?_
        rintro e w8 ⟨rfl,hb8⟩
        replace hB:=hB.trans (hb8.mono hB.size)
        replace Rb:=Rb.below hb8
        clear hb8
        have Rr:=Rb.row #[.int .i64 RC,.int .i64 0,.bool false,.bool false,.int .i64 0,.bool false,.slice none 0 0,.slice none 0 0,.slice none 0 0]
        have hBr:=below_row hB (g:=w.heap.size) (by omega) #[.int .i64 RC,.int .i64 0,.bool false,.bool false,.int .i64 0,.bool false,.slice none 0 0,.slice none 0 0,.slice none 0 0]
        have hsr:(Tryz.prog.info? 39).map (·.size)=some (#[.int .i64 RC,.int .i64 0,.bool false,.bool false,.int .i64 0,.bool false,.slice none 0 0,.slice none 0 0,.slice none 0 0]:Array Value).size:=sz_res
        go_wp2_with (first | (refine st_row (by kernel_rfl) 39 _ _ rfl _ #[.int .i64 RC,.int .i64 0,.bool false,.bool false,.int .i64 0,.bool false,.slice none 0 0,.slice none 0 0,.slice none 0 0] rfl rfl 39 _ Rb hsr rfl (by simp [Value.oneCell']) ?_))
        obtain ⟨q0,q1,q2,q3,q4,q5,q6,q7,q8⟩:=Rr.cel9
        exact bodyPost_ret (v:=.agg #[.int .i64 RC,.int .i64 0,.bool false,.bool false,.int .i64 0,.bool false,.slice none 0 0,.slice none 0 0,.slice none 0 0]) (by simp [results,Tryz.results50,go_sem,q0,q1,q2,q3,q4,q5,q6,q7,q8]) rfl ⟨inst0,by rw [E1.out.1,E1.out.2.2.1,E1.out.2.2.2.1,E1.out.2.2.2.2.1,E1.out.2.2.2.2.2];rfl,E1.out.2.1.symm,inst0_own _,inst0_nd,fun k hk=>by rw [inst0_ft] at hk;simp at hk,hBr⟩

       case pos=>
        have E1:Hid _:=F0.out hrc
        subst hrc
        clear F6 F0
        have hous:∀ cs,instK.own (X6.setRow w.heap.size cs) q6:=fun cs=>instK.own_out own6 (out_row _ w.heap.size cs) (fun k hk=>by have:=HFT.out k hk;simp only [List.mem_singleton];omega)
        have HQ:Hid (q6.e=E∧(instK.foot q6).Nodup∧(∀ k∈instK.foot q6,w.heap.size≤k)∧∀ cs,instK.own (X6.setRow w.heap.size cs) q6):=⟨by rw [E1.out.2.1];exact HE6.out,nq6,fun k hk=>by have:=HFT.out k hk;omega,hous⟩
        have HD0:Hid (D=0∧K0=0∧K1=true∧K2=CK∧K3=CV):=⟨E1.out.1,E1.out.2.2⟩
        clear E1 HE6 hous nq6 HFT
        obtain ⟨jh,jb,jbs,jr,jrs,jd,jds⟩:=q6
        obtain ⟨j1,u1,rfl⟩:∃ a c,jb=.slice a jbs.length c:=own6.1.shape
        obtain ⟨j2,u2,rfl⟩:∃ a c,jr=.slice a jrs.length c:=own6.2.1.shape
        obtain ⟨j3,u3,rfl⟩:∃ a c,jd=.slice a jds.length c:=own6.2.2.shape
        clear own6
        have Rr:=Rb.row #[.int .i64 0,.int .i64 0,.bool true,.bool CK,.int .i64 CV,.bool jh,.slice j1 jbs.length u1,.slice j2 jrs.length u2,.slice j3 jds.length u3]
        have hBr:=below_row hB (g:=w.heap.size) (Nat.le_refl _) #[.int .i64 0,.int .i64 0,.bool true,.bool CK,.int .i64 CV,.bool jh,.slice j1 jbs.length u1,.slice j2 jrs.length u2,.slice j3 jds.length u3]
        have hsr:(Tryz.prog.info? 39).map (·.size)=some (#[.int .i64 0,.int .i64 0,.bool true,.bool CK,.int .i64 CV,.bool jh,.slice j1 jbs.length u1,.slice j2 jrs.length u2,.slice j3 jds.length u3]:Array Value).size:=sz_res
        obtain ⟨z0,z1,z2,z3⟩:=G6.cel4
        obtain ⟨c0,c1,c2,c3⟩:=BC.cel4
        dsimp only at z0 z1 z2 z3
        go_wp2_with (first | (refine st_row (by kernel_rfl) 39 _ _ rfl _ #[.int .i64 0,.int .i64 0,.bool true,.bool CK,.int .i64 CV,.bool jh,.slice j1 jbs.length u1,.slice j2 jrs.length u2,.slice j3 jds.length u3] rfl rfl 39 _ Rb hsr rfl (by simp [Value.oneCell']) ?_))
        obtain ⟨q0,q1,q2,q3,q4,q5,q6,q7,q8⟩:=Rr.cel9
        exact bodyPost_ret (v:=.agg #[.int .i64 0,.int .i64 0,.bool true,.bool CK,.int .i64 CV,.bool jh,.slice j1 jbs.length u1,.slice j2 jrs.length u2,.slice j3 jds.length u3]) (by simp [results,Tryz.results50,go_sem,q0,q1,q2,q3,q4,q5,q6,q7,q8]) rfl ⟨⟨jh,.slice j1 jbs.length u1,jbs,.slice j2 jrs.length u2,jrs,.slice j3 jds.length u3,jds⟩,by rw [HD0.out.1,HD0.out.2.1,HD0.out.2.2.1,HD0.out.2.2.2.1,HD0.out.2.2.2.2],HQ.out.1,HQ.out.2.2.2 _,HQ.out.2.1,HQ.out.2.2.1,hBr⟩

      | false=>
       simp only [Bool.false_eq_true,if_false] at F0
       have hbA:Below w3.heap.size w3 (w3.alloc (.cells #[.bool qh,.slice s1 qbs.length t1,.slice s2 qrs.length t2,.slice s3 qds.length t3] 28)):=by go_grown
       have Gz:=Blk.new w3 28 #[.bool qh,.slice s1 qbs.length t1,.slice s2 qrs.length t2,.slice s3 qds.length t3]
       replace Rb:=Rb.below hbA
       have c1:=BC.cell 1 _ rfl
       have c3:=BC.cell 3 _ rfl
       replace BC:=BC.below hbA
       have c0:=BC.cell 1 _ rfl
       have c2:=BC.cell 3 _ rfl
       replace hB:=hB.trans (hbA.mono hB.size)
       have own5:=instK.own_out (F:=[]) oq (Out.of_below hbA) (fun _ _=>by simp)
       have L5:=gq
       have M5:=M
       have nq5:=nq
       have hQR:(InstQ.e (⟨qh,.slice s1 qbs.length t1,qbs,.slice s2 qrs.length t2,qrs,.slice s3 qds.length t3,qds⟩:InstQ))=⟨pe.has,pe.batch,pe.rounds,pe.dec⟩:=HED.out
       have hwelQ:Wel (InstQ.e (⟨qh,.slice s1 qbs.length t1,qbs,.slice s2 qrs.length t2,qrs,.slice s3 qds.length t3,qds⟩:InstQ)).rounds:=by rw [hQR];exact hwel
       have h4Q:(InstQ.rounds (⟨qh,.slice s1 qbs.length t1,qbs,.slice s2 qrs.length t2,qrs,.slice s3 qds.length t3,qds⟩:InstQ)).length≤4:=by show qrs.length≤4;have:qrs.length=pe.rounds.length:=hQl;omega
       have h0Q:0 < (InstQ.rounds (⟨qh,.slice s1 qbs.length t1,qbs,.slice s2 qrs.length t2,qrs,.slice s3 qds.length t3,qds⟩:InstQ)).length:=by show 0 < qrs.length;have:qrs.length=pe.rounds.length:=hQl;omega
       have hnxQ:r + 1≤(InstQ.rounds (⟨qh,.slice s1 qbs.length t1,qbs,.slice s2 qrs.length t2,qrs,.slice s3 qds.length t3,qds⟩:InstQ)).length:=by show r + 1≤qrs.length;have:qrs.length=pe.rounds.length:=hQl;omega
       clear hbA oq nq gq M hQE hQl hdq
       go_wp2_with fail
       clear c0 c1 c2 c3
       have hgx:=Gz.lt
       generalize w3.alloc (.cells #[.bool qh,.slice s1 qbs.length t1,.slice s2 qrs.length t2,.slice s3 qds.length t3] 28)=X at *
       have hrep:Calls Tryz.prog 84 #[.pointer (some ⟨w3.heap.size,0,none⟩),.int .i64 (n:Int),.int .i64 ((r:Int) + 1),.int .i64 CV] X _:=l6Report_any w3.heap.size (⟨qh,.slice s1 qbs.length t1,qbs,.slice s2 qrs.length t2,qrs,.slice s3 qds.length t3,qds⟩:InstQ) n (r + 1) CV X Gz own5 nq5 (fun hx=>by have:=M5 _ hx;omega) hwelQ h4Q h0Q hnxQ hn
       refine hrep.mono ?_
       rintro e X6 ⟨q6,rfl,e6,G6,own6,nq6,ft6,hU6⟩
       clear hrep
       have hlow:∀ k∈w3.heap.size :: instK.foot (⟨qh,.slice s1 qbs.length t1,qbs,.slice s2 qrs.length t2,qrs,.slice s3 qds.length t3,qds⟩:InstQ),Y.heap.size≤k:=fun k hk=>by
        rcases List.mem_cons.1 hk with rfl | hk
        ·exact hY3
        ·exact L5 k hk
       replace Rb:Blk X6 w.heap.size 39 _:=(hU6.block _ Rb.lt (fun hx=>by have:=hlow _ hx;omega)).trans Rb
       replace BC:Blk X6 w2.heap.size 37 _:=(hU6.block _ BC.lt (fun hx=>by have:=hlow _ hx;omega)).trans BC
       replace hB:=Out.keep hB hU6 hB.size (fun k hk=>by have:=hlow k hk;omega)
       have HFT:Hid (∀ k∈instK.foot q6,w.heap.size < k):=fun k hk=>by
        rcases ft6 k hk with h | h
        ·have:=L5 k h;omega
        ·omega
       have HE6:Hid (q6.e=_):=e6
       rw [hQR] at HE6
       rw [hQR]
       clear Gz own5 nq5 L5 M5 hlow hU6 ft6 e6 hQR hwelQ
       generalize rpC pe.rounds (r + 1) n=RC at *
       by_cases hrc:RC=0
       case neg=>
        have E1:Hid (D=RC∧E=ine0∧K0=0∧K1=false∧K2=false∧K3=0):=F6.out hrc
        have hrc' : (RC != 0)=true:=by simpa using hrc
        clear F6 F0 hrc
        go_wp2_with fail
        refine (l6Bad_any RC _).mono ?_
        rintro e w8 ⟨rfl,hb8⟩
        replace hB:=hB.trans (hb8.mono hB.size)
        replace Rb:=Rb.below hb8
        clear hb8
        have Rr:=Rb.row #[.int .i64 RC,.int .i64 0,.bool false,.bool false,.int .i64 0,.bool false,.slice none 0 0,.slice none 0 0,.slice none 0 0]
        have hBr:=below_row hB (g:=w.heap.size) (by omega) #[.int .i64 RC,.int .i64 0,.bool false,.bool false,.int .i64 0,.bool false,.slice none 0 0,.slice none 0 0,.slice none 0 0]
        have hsr:(Tryz.prog.info? 39).map (·.size)=some (#[.int .i64 RC,.int .i64 0,.bool false,.bool false,.int .i64 0,.bool false,.slice none 0 0,.slice none 0 0,.slice none 0 0]:Array Value).size:=sz_res
        go_wp2_with (first | (refine st_row (by kernel_rfl) 39 _ _ rfl _ #[.int .i64 RC,.int .i64 0,.bool false,.bool false,.int .i64 0,.bool false,.slice none 0 0,.slice none 0 0,.slice none 0 0] rfl rfl 39 _ Rb hsr rfl (by simp [Value.oneCell']) ?_))
        obtain ⟨q0,q1,q2,q3,q4,q5,q6,q7,q8⟩:=Rr.cel9
        exact bodyPost_ret (v:=.agg #[.int .i64 RC,.int .i64 0,.bool false,.bool false,.int .i64 0,.bool false,.slice none 0 0,.slice none 0 0,.slice none 0 0]) (by simp [results,Tryz.results50,go_sem,q0,q1,q2,q3,q4,q5,q6,q7,q8]) rfl ⟨inst0,by rw [E1.out.1,E1.out.2.2.1,E1.out.2.2.2.1,E1.out.2.2.2.2.1,E1.out.2.2.2.2.2];rfl,E1.out.2.1.symm,inst0_own _,inst0_nd,fun k hk=>by rw [inst0_ft] at hk;simp at hk,hBr⟩

       case pos=>
        have E1:Hid _:=F0.out hrc
        subst hrc
        clear F6 F0
        have hous:∀ cs,instK.own (X6.setRow w.heap.size cs) q6:=fun cs=>instK.own_out own6 (out_row _ w.heap.size cs) (fun k hk=>by have:=HFT.out k hk;simp only [List.mem_singleton];omega)
        have HQ:Hid (q6.e=E∧(instK.foot q6).Nodup∧(∀ k∈instK.foot q6,w.heap.size≤k)∧∀ cs,instK.own (X6.setRow w.heap.size cs) q6):=⟨by rw [E1.out.2.1];exact HE6.out,nq6,fun k hk=>by have:=HFT.out k hk;omega,hous⟩
        have HD0:Hid (D=0∧K0=0∧K1=false∧K2=CK∧K3=CV):=⟨E1.out.1,E1.out.2.2⟩
        clear E1 HE6 hous nq6 HFT
        obtain ⟨jh,jb,jbs,jr,jrs,jd,jds⟩:=q6
        obtain ⟨j1,u1,rfl⟩:∃ a c,jb=.slice a jbs.length c:=own6.1.shape
        obtain ⟨j2,u2,rfl⟩:∃ a c,jr=.slice a jrs.length c:=own6.2.1.shape
        obtain ⟨j3,u3,rfl⟩:∃ a c,jd=.slice a jds.length c:=own6.2.2.shape
        clear own6
        have Rr:=Rb.row #[.int .i64 0,.int .i64 0,.bool false,.bool CK,.int .i64 CV,.bool jh,.slice j1 jbs.length u1,.slice j2 jrs.length u2,.slice j3 jds.length u3]
        have hBr:=below_row hB (g:=w.heap.size) (Nat.le_refl _) #[.int .i64 0,.int .i64 0,.bool false,.bool CK,.int .i64 CV,.bool jh,.slice j1 jbs.length u1,.slice j2 jrs.length u2,.slice j3 jds.length u3]
        have hsr:(Tryz.prog.info? 39).map (·.size)=some (#[.int .i64 0,.int .i64 0,.bool false,.bool CK,.int .i64 CV,.bool jh,.slice j1 jbs.length u1,.slice j2 jrs.length u2,.slice j3 jds.length u3]:Array Value).size:=sz_res
        obtain ⟨z0,z1,z2,z3⟩:=G6.cel4
        obtain ⟨c0,c1,c2,c3⟩:=BC.cel4
        dsimp only at z0 z1 z2 z3
        go_wp2_with (first | (refine st_row (by kernel_rfl) 39 _ _ rfl _ #[.int .i64 0,.int .i64 0,.bool false,.bool CK,.int .i64 CV,.bool jh,.slice j1 jbs.length u1,.slice j2 jrs.length u2,.slice j3 jds.length u3] rfl rfl 39 _ Rb hsr rfl (by simp [Value.oneCell']) ?_))
        obtain ⟨q0,q1,q2,q3,q4,q5,q6,q7,q8⟩:=Rr.cel9
        exact bodyPost_ret (v:=.agg #[.int .i64 0,.int .i64 0,.bool false,.bool CK,.int .i64 CV,.bool jh,.slice j1 jbs.length u1,.slice j2 jrs.length u2,.slice j3 jds.length u3]) (by simp [results,Tryz.results50,go_sem,q0,q1,q2,q3,q4,q5,q6,q7,q8]) rfl ⟨⟨jh,.slice j1 jbs.length u1,jbs,.slice j2 jrs.length u2,jrs,.slice j3 jds.length u3,jds⟩,by rw [HD0.out.1,HD0.out.2.1,HD0.out.2.2.1,HD0.out.2.2.2.1,HD0.out.2.2.2.2],HQ.out.1,HQ.out.2.2.2 _,HQ.out.2.1,HQ.out.2.2.1,hBr⟩

   ·have hco' : (coin == 1)=false:=by simpa using hc1
    have e:co=coin:=by rw [HCO.out];exact if_neg (fun h=>hc1 h.1)
    subst e
    clear HCO hc1
    go_wp2_with fail
    clear kx ky k0 k1 d0 d1 d2 d3 hq hco'
    refine (hsp _ _ w1 (Ry.below hB)).mono ?_
    rintro e w2 ⟨rfl,hb2⟩
    have hbA:Below w2.heap.size w2 (w2.alloc (.cells #[.int .i64 CC,.bool CD,.bool CK,.int .i64 CV] 37)):=by go_grown
    have BC:=Blk.new w2 37 #[.int .i64 CC,.bool CD,.bool CK,.int .i64 CV]
    have h12:w.heap.size < w2.heap.size:=(Rb.below hb2).lt
    replace Rb:=(Rb.below hb2).below hbA
    replace hB:=hB.trans (hb2.mono hB.size)
    replace hB:=hB.trans (hbA.mono hB.size)
    clear hb2 hsp hbA
    by_cases hcc:CC=0
    case neg=>
     have E1:Hid (D=CC∧E=ine0∧K0=0∧K1=false∧K2=false∧K3=0):=FC.out hcc
     have h0' : (CC != 0)=true:=by simpa using hcc
     clear FC F6 F0 hcc hLE hcp
     go_wp2_with fail
     refine (l6Bad_any CC _).mono ?_
     rintro e w8 ⟨rfl,hb8⟩
     replace hB:=hB.trans (hb8.mono hB.size)
     replace Rb:=Rb.below hb8
     clear hb8
     have Rr:=Rb.row #[.int .i64 CC,.int .i64 0,.bool false,.bool false,.int .i64 0,.bool false,.slice none 0 0,.slice none 0 0,.slice none 0 0]
     have hBr:=below_row hB (g:=w.heap.size) (by omega) #[.int .i64 CC,.int .i64 0,.bool false,.bool false,.int .i64 0,.bool false,.slice none 0 0,.slice none 0 0,.slice none 0 0]
     have hsr:(Tryz.prog.info? 39).map (·.size)=some (#[.int .i64 CC,.int .i64 0,.bool false,.bool false,.int .i64 0,.bool false,.slice none 0 0,.slice none 0 0,.slice none 0 0]:Array Value).size:=sz_res
     go_wp2_with (first | (refine st_row (by kernel_rfl) 39 _ _ rfl _ #[.int .i64 CC,.int .i64 0,.bool false,.bool false,.int .i64 0,.bool false,.slice none 0 0,.slice none 0 0,.slice none 0 0] rfl rfl 39 _ Rb hsr rfl (by simp [Value.oneCell']) ?_))
     obtain ⟨q0,q1,q2,q3,q4,q5,q6,q7,q8⟩:=Rr.cel9
     exact bodyPost_ret (v:=.agg #[.int .i64 CC,.int .i64 0,.bool false,.bool false,.int .i64 0,.bool false,.slice none 0 0,.slice none 0 0,.slice none 0 0]) (by simp [results,Tryz.results50,go_sem,q0,q1,q2,q3,q4,q5,q6,q7,q8]) rfl ⟨inst0,by rw [E1.out.1,E1.out.2.2.1,E1.out.2.2.2.1,E1.out.2.2.2.2.1,E1.out.2.2.2.2.2];rfl,E1.out.2.1.symm,inst0_own _,inst0_nd,fun k hk=>by rw [inst0_ft] at hk;simp at hk,hBr⟩

    case pos=>
     replace F6:Hid _:=F6.out hcc
     replace F0:Hid _:=F0.out hcc
     subst hcc
     clear FC
     have hPW2:=hP.below hB
     obtain ⟨d0,d1,d2,d3⟩:=hPW2.box
     dsimp only at d0 d1 d2 d3
     go_wp2_with fail
     clear d0 d1 d2 d3 hPW2
     have hYY:w2.heap.size < (w2.alloc (.cells #[.int .i64 0,.bool CD,.bool CK,.int .i64 CV] 37)).heap.size:=by simp
     generalize (w2.alloc (.cells #[.int .i64 0,.bool CD,.bool CK,.int .i64 CV] 37))=Y at *
     refine (hcp Y (hrb Y hB)).mono ?_
     rintro e w3 ⟨q,rfl,eq,oq,nq,gq,hb3⟩
     have hY3:Y.heap.size≤w3.heap.size:=hb3.size
     replace Rb:=Rb.below hb3
     replace BC:=BC.below hb3
     replace hB:=hB.trans (hb3.mono hB.size)
     have M:=instK.own_lt oq
     have hQE:q.e.rounds=pe.rounds:=by rw [eq]
     have hQl:q.rounds.length=pe.rounds.length:=by rw [← hQE];exact (List.length_map _).symm
     have HED:Hid (q.e=pe):=eq
     have hdq:q.dec.length=3:=by
      have:q.e.dec=pe.dec:=by rw [eq]
      have h9:q.dec=pe.dec:=this
      rw [h9]
      exact HD3.out
     clear hb3 hcp eq
     obtain ⟨qh,qb,qbs,qr,qrs,qd,qds⟩:=q
     obtain ⟨s1,t1,rfl⟩:∃ a c,qb=.slice a qbs.length c:=oq.1.shape
     obtain ⟨s2,t2,rfl⟩:∃ a c,qr=.slice a qrs.length c:=oq.2.1.shape
     obtain ⟨s3,t3,rfl⟩:∃ a c,qd=.slice a qds.length c:=oq.2.2.shape
     cases CD with
     | true=>
      simp only [if_true] at F0
      obtain ⟨g5,cap5,hv5,hg5,kc,kf,own5,foot5⟩:=own_setD oq nq n (by show n < qds.length;have:qds.length=3:=hdq;omega) CV
      have hdl:qds.length=3:=hdq
      replace hv5:(Value.slice s3 qds.length t3)=.slice (some ⟨g5,0,none⟩) qds.length cap5:=hv5
      simp only [Value.slice.injEq,true_and] at hv5
      obtain ⟨rfl,rfl⟩:=hv5
      have hg5l:Y.heap.size≤g5∧g5 < w3.heap.size:=⟨gq g5 hg5,M g5 hg5⟩
      have hss:(w3.setCell ⟨g5,n,none⟩ (iv CV)).heap.size=w3.heap.size:=by simp
      have hbA:Below (w3.setCell ⟨g5,n,none⟩ (iv CV)).heap.size (w3.setCell ⟨g5,n,none⟩ (iv CV)) ((w3.setCell ⟨g5,n,none⟩ (iv CV)).alloc (.cells #[.bool qh,.slice s1 qbs.length t1,.slice s2 qrs.length t2,.slice (some ⟨g5,0,none⟩) qds.length t3] 28)):=by go_grown
      have Gz:=Blk.new (w3.setCell ⟨g5,n,none⟩ (iv CV)) 28 #[.bool qh,.slice s1 qbs.length t1,.slice s2 qrs.length t2,.slice (some ⟨g5,0,none⟩) qds.length t3]
      rw [hss] at Gz
      replace Rb:=(Rb.other (b' := g5) (by omega) n (iv CV)).below hbA
      have hAl:Below w3.heap.size w3 (w3.alloc (.cells #[.bool qh,.slice s1 qbs.length t1,.slice s2 qrs.length t2,.slice (some ⟨g5,0,none⟩) qds.length t3] 28)):=by go_grown
      have a1:=BC.cell 1 _ rfl
      have a3:=BC.cell 3 _ rfl
      have e1:=cellB a1 hAl
      have e3:=cellB a3 hAl
      clear hAl
      replace BC:=(BC.other (b' := g5) (by omega) n (iv CV)).below hbA
      have hB1:Below w.heap.size w (w3.setCell ⟨g5,n,none⟩ (iv CV)):=hB.setCell (p:=⟨g5,n,none⟩) (by show w.heap.size≤g5;omega) _
      replace hB:=hB1.trans (hbA.mono hB1.size)
      replace own5:=instK.own_out (F:=[]) own5 (Out.of_below hbA) (fun _ _=>by simp)
      have L5:∀ k∈instK.foot (InstQ.setD (⟨qh,.slice s1 qbs.length t1,qbs,.slice s2 qrs.length t2,qrs,.slice (some ⟨g5,0,none⟩) qds.length t3,qds⟩:InstQ) n CV),Y.heap.size≤k:=fun k hk=>by rw [foot5] at hk;exact gq k hk
      have M5:∀ k∈instK.foot (InstQ.setD (⟨qh,.slice s1 qbs.length t1,qbs,.slice s2 qrs.length t2,qrs,.slice (some ⟨g5,0,none⟩) qds.length t3,qds⟩:InstQ) n CV),k < w3.heap.size:=fun k hk=>by rw [foot5] at hk;exact M k hk
      have nq5:(instK.foot (InstQ.setD (⟨qh,.slice s1 qbs.length t1,qbs,.slice s2 qrs.length t2,qrs,.slice (some ⟨g5,0,none⟩) qds.length t3,qds⟩:InstQ) n CV)).Nodup:=by rw [foot5];exact nq
      have hQR:(InstQ.setD (⟨qh,.slice s1 qbs.length t1,qbs,.slice s2 qrs.length t2,qrs,.slice (some ⟨g5,0,none⟩) qds.length t3,qds⟩:InstQ) n CV).e=⟨pe.has,pe.batch,pe.rounds,pe.dec.set n CV⟩:=by rw [setD_e,HED.out]
      have hwelQ:Wel (InstQ.setD (⟨qh,.slice s1 qbs.length t1,qbs,.slice s2 qrs.length t2,qrs,.slice (some ⟨g5,0,none⟩) qds.length t3,qds⟩:InstQ) n CV).e.rounds:=by rw [hQR];exact hwel
      have h4Q:(InstQ.setD (⟨qh,.slice s1 qbs.length t1,qbs,.slice s2 qrs.length t2,qrs,.slice (some ⟨g5,0,none⟩) qds.length t3,qds⟩:InstQ) n CV).rounds.length≤4:=by show qrs.length≤4;have:qrs.length=pe.rounds.length:=hQl;omega
      have h0Q:0 < (InstQ.setD (⟨qh,.slice s1 qbs.length t1,qbs,.slice s2 qrs.length t2,qrs,.slice (some ⟨g5,0,none⟩) qds.length t3,qds⟩:InstQ) n CV).rounds.length:=by show 0 < qrs.length;have:qrs.length=pe.rounds.length:=hQl;omega
      have hnxQ:r + 1≤(InstQ.setD (⟨qh,.slice s1 qbs.length t1,qbs,.slice s2 qrs.length t2,qrs,.slice (some ⟨g5,0,none⟩) qds.length t3,qds⟩:InstQ) n CV).rounds.length:=by show r + 1≤qrs.length;have:qrs.length=pe.rounds.length:=hQl;omega
      obtain ⟨old,kc2⟩:∃ z,w3.cell? ⟨g5,n,none⟩=some (iv z):=⟨_,kc⟩
      obtain ⟨c0,c1,c2,c3⟩:=BC.cel4
      clear kc hbA hB1 foot5 oq nq gq M hQE hdq hQl
      have hn4:(n:Int) < qds.length:=by omega
      clear hdl
      go_wp2_with fail
      clear c0 c1 c2 c3 a1 a3 e1 e3 kc2 kf
      have hgx:=Gz.lt
      generalize (w3.setCell ⟨g5,n,none⟩ (iv CV)).alloc (.cells #[.bool qh,.slice s1 qbs.length t1,.slice s2 qrs.length t2,.slice (some ⟨g5,0,none⟩) qds.length t3] 28)=X at *
      have hrep:Calls Tryz.prog 84 #[.pointer (some ⟨w3.heap.size,0,none⟩),.int .i64 (n:Int),.int .i64 ((r:Int) + 1),.int .i64 CV] X _:=l6Report_any w3.heap.size (InstQ.setD (⟨qh,.slice s1 qbs.length t1,qbs,.slice s2 qrs.length t2,qrs,.slice (some ⟨g5,0,none⟩) qds.length t3,qds⟩:InstQ) n CV) n (r + 1) CV X Gz own5 nq5 (fun hx=>by have:=M5 _ hx;omega) hwelQ h4Q h0Q hnxQ hn
      refine hrep.mono ?_
      rintro e X6 ⟨q6,rfl,e6,G6,own6,nq6,ft6,hU6⟩
      clear hrep
      have hlow:∀ k∈w3.heap.size :: instK.foot (InstQ.setD (⟨qh,.slice s1 qbs.length t1,qbs,.slice s2 qrs.length t2,qrs,.slice (some ⟨g5,0,none⟩) qds.length t3,qds⟩:InstQ) n CV),Y.heap.size≤k:=fun k hk=>by
       rcases List.mem_cons.1 hk with rfl | hk
       ·exact hY3
       ·exact L5 k hk
      replace Rb:Blk X6 w.heap.size 39 _:=(hU6.block _ Rb.lt (fun hx=>by have:=hlow _ hx;omega)).trans Rb
      replace BC:Blk X6 w2.heap.size 37 _:=(hU6.block _ BC.lt (fun hx=>by have:=hlow _ hx;omega)).trans BC
      replace hB:=Out.keep hB hU6 hB.size (fun k hk=>by have:=hlow k hk;omega)
      have HFT:Hid (∀ k∈instK.foot q6,w.heap.size < k):=fun k hk=>by
       rcases ft6 k hk with h | h
       ·have:=L5 k h;omega
       ·omega
      have HE6:Hid (q6.e=_):=e6
      rw [hQR] at HE6
      rw [hQR]
      clear Gz own5 nq5 L5 M5 hlow hU6 ft6 e6 hQR hwelQ
      generalize rpC pe.rounds (r + 1) n=RC at *
      by_cases hrc:RC=0
      case neg=>
       have E1:Hid (D=RC∧E=ine0∧K0=0∧K1=false∧K2=false∧K3=0):=F6.out hrc
       have hrc' : (RC != 0)=true:=by simpa using hrc
       clear F6 F0 hrc
       go_wp2_with fail
       refine (l6Bad_any RC _).mono ?_
       rintro e w8 ⟨rfl,hb8⟩
       replace hB:=hB.trans (hb8.mono hB.size)
       replace Rb:=Rb.below hb8
       clear hb8
       have Rr:=Rb.row #[.int .i64 RC,.int .i64 0,.bool false,.bool false,.int .i64 0,.bool false,.slice none 0 0,.slice none 0 0,.slice none 0 0]
       have hBr:=below_row hB (g:=w.heap.size) (by omega) #[.int .i64 RC,.int .i64 0,.bool false,.bool false,.int .i64 0,.bool false,.slice none 0 0,.slice none 0 0,.slice none 0 0]
       have hsr:(Tryz.prog.info? 39).map (·.size)=some (#[.int .i64 RC,.int .i64 0,.bool false,.bool false,.int .i64 0,.bool false,.slice none 0 0,.slice none 0 0,.slice none 0 0]:Array Value).size:=sz_res
       go_wp2_with (first | (refine st_row (by kernel_rfl) 39 _ _ rfl _ #[.int .i64 RC,.int .i64 0,.bool false,.bool false,.int .i64 0,.bool false,.slice none 0 0,.slice none 0 0,.slice none 0 0] rfl rfl 39 _ Rb hsr rfl (by simp [Value.oneCell']) ?_))
       obtain ⟨q0,q1,q2,q3,q4,q5,q6,q7,q8⟩:=Rr.cel9
       exact bodyPost_ret (v:=.agg #[.int .i64 RC,.int .i64 0,.bool false,.bool false,.int .i64 0,.bool false,.slice none 0 0,.slice none 0 0,.slice none 0 0]) (by simp [results,Tryz.results50,go_sem,q0,q1,q2,q3,q4,q5,q6,q7,q8]) rfl ⟨inst0,by rw [E1.out.1,E1.out.2.2.1,E1.out.2.2.2.1,E1.out.2.2.2.2.1,E1.out.2.2.2.2.2];rfl,E1.out.2.1.symm,inst0_own _,inst0_nd,fun k hk=>by rw [inst0_ft] at hk;simp at hk,hBr⟩

      case pos=>
       have E1:Hid _:=F0.out hrc
       subst hrc
       clear F6 F0
       have hous:∀ cs,instK.own (X6.setRow w.heap.size cs) q6:=fun cs=>instK.own_out own6 (out_row _ w.heap.size cs) (fun k hk=>by have:=HFT.out k hk;simp only [List.mem_singleton];omega)
       have HQ:Hid (q6.e=E∧(instK.foot q6).Nodup∧(∀ k∈instK.foot q6,w.heap.size≤k)∧∀ cs,instK.own (X6.setRow w.heap.size cs) q6):=⟨by rw [E1.out.2.1];exact HE6.out,nq6,fun k hk=>by have:=HFT.out k hk;omega,hous⟩
       have HD0:Hid (D=0∧K0=0∧K1=true∧K2=CK∧K3=CV):=⟨E1.out.1,E1.out.2.2⟩
       clear E1 HE6 hous nq6 HFT
       obtain ⟨jh,jb,jbs,jr,jrs,jd,jds⟩:=q6
       obtain ⟨j1,u1,rfl⟩:∃ a c,jb=.slice a jbs.length c:=own6.1.shape
       obtain ⟨j2,u2,rfl⟩:∃ a c,jr=.slice a jrs.length c:=own6.2.1.shape
       obtain ⟨j3,u3,rfl⟩:∃ a c,jd=.slice a jds.length c:=own6.2.2.shape
       clear own6
       have Rr:=Rb.row #[.int .i64 0,.int .i64 0,.bool true,.bool CK,.int .i64 CV,.bool jh,.slice j1 jbs.length u1,.slice j2 jrs.length u2,.slice j3 jds.length u3]
       have hBr:=below_row hB (g:=w.heap.size) (Nat.le_refl _) #[.int .i64 0,.int .i64 0,.bool true,.bool CK,.int .i64 CV,.bool jh,.slice j1 jbs.length u1,.slice j2 jrs.length u2,.slice j3 jds.length u3]
       have hsr:(Tryz.prog.info? 39).map (·.size)=some (#[.int .i64 0,.int .i64 0,.bool true,.bool CK,.int .i64 CV,.bool jh,.slice j1 jbs.length u1,.slice j2 jrs.length u2,.slice j3 jds.length u3]:Array Value).size:=sz_res
       obtain ⟨z0,z1,z2,z3⟩:=G6.cel4
       obtain ⟨c0,c1,c2,c3⟩:=BC.cel4
       dsimp only at z0 z1 z2 z3
       go_wp2_with (first | (refine st_row (by kernel_rfl) 39 _ _ rfl _ #[.int .i64 0,.int .i64 0,.bool true,.bool CK,.int .i64 CV,.bool jh,.slice j1 jbs.length u1,.slice j2 jrs.length u2,.slice j3 jds.length u3] rfl rfl 39 _ Rb hsr rfl (by simp [Value.oneCell']) ?_))
       obtain ⟨q0,q1,q2,q3,q4,q5,q6,q7,q8⟩:=Rr.cel9
       exact bodyPost_ret (v:=.agg #[.int .i64 0,.int .i64 0,.bool true,.bool CK,.int .i64 CV,.bool jh,.slice j1 jbs.length u1,.slice j2 jrs.length u2,.slice j3 jds.length u3]) (by simp [results,Tryz.results50,go_sem,q0,q1,q2,q3,q4,q5,q6,q7,q8]) rfl ⟨⟨jh,.slice j1 jbs.length u1,jbs,.slice j2 jrs.length u2,jrs,.slice j3 jds.length u3,jds⟩,by rw [HD0.out.1,HD0.out.2.1,HD0.out.2.2.1,HD0.out.2.2.2.1,HD0.out.2.2.2.2],HQ.out.1,HQ.out.2.2.2 _,HQ.out.2.1,HQ.out.2.2.1,hBr⟩

     | false=>
      simp only [Bool.false_eq_true,if_false] at F0
      have hbA:Below w3.heap.size w3 (w3.alloc (.cells #[.bool qh,.slice s1 qbs.length t1,.slice s2 qrs.length t2,.slice s3 qds.length t3] 28)):=by go_grown
      have Gz:=Blk.new w3 28 #[.bool qh,.slice s1 qbs.length t1,.slice s2 qrs.length t2,.slice s3 qds.length t3]
      replace Rb:=Rb.below hbA
      have c1:=BC.cell 1 _ rfl
      have c3:=BC.cell 3 _ rfl
      replace BC:=BC.below hbA
      have c0:=BC.cell 1 _ rfl
      have c2:=BC.cell 3 _ rfl
      replace hB:=hB.trans (hbA.mono hB.size)
      have own5:=instK.own_out (F:=[]) oq (Out.of_below hbA) (fun _ _=>by simp)
      have L5:=gq
      have M5:=M
      have nq5:=nq
      have hQR:(InstQ.e (⟨qh,.slice s1 qbs.length t1,qbs,.slice s2 qrs.length t2,qrs,.slice s3 qds.length t3,qds⟩:InstQ))=⟨pe.has,pe.batch,pe.rounds,pe.dec⟩:=HED.out
      have hwelQ:Wel (InstQ.e (⟨qh,.slice s1 qbs.length t1,qbs,.slice s2 qrs.length t2,qrs,.slice s3 qds.length t3,qds⟩:InstQ)).rounds:=by rw [hQR];exact hwel
      have h4Q:(InstQ.rounds (⟨qh,.slice s1 qbs.length t1,qbs,.slice s2 qrs.length t2,qrs,.slice s3 qds.length t3,qds⟩:InstQ)).length≤4:=by show qrs.length≤4;have:qrs.length=pe.rounds.length:=hQl;omega
      have h0Q:0 < (InstQ.rounds (⟨qh,.slice s1 qbs.length t1,qbs,.slice s2 qrs.length t2,qrs,.slice s3 qds.length t3,qds⟩:InstQ)).length:=by show 0 < qrs.length;have:qrs.length=pe.rounds.length:=hQl;omega
      have hnxQ:r + 1≤(InstQ.rounds (⟨qh,.slice s1 qbs.length t1,qbs,.slice s2 qrs.length t2,qrs,.slice s3 qds.length t3,qds⟩:InstQ)).length:=by show r + 1≤qrs.length;have:qrs.length=pe.rounds.length:=hQl;omega
      clear hbA oq nq gq M hQE hQl hdq
      go_wp2_with fail
      clear c0 c1 c2 c3
      have hgx:=Gz.lt
      generalize w3.alloc (.cells #[.bool qh,.slice s1 qbs.length t1,.slice s2 qrs.length t2,.slice s3 qds.length t3] 28)=X at *
      have hrep:Calls Tryz.prog 84 #[.pointer (some ⟨w3.heap.size,0,none⟩),.int .i64 (n:Int),.int .i64 ((r:Int) + 1),.int .i64 CV] X _:=l6Report_any w3.heap.size (⟨qh,.slice s1 qbs.length t1,qbs,.slice s2 qrs.length t2,qrs,.slice s3 qds.length t3,qds⟩:InstQ) n (r + 1) CV X Gz own5 nq5 (fun hx=>by have:=M5 _ hx;omega) hwelQ h4Q h0Q hnxQ hn
      refine hrep.mono ?_
      rintro e X6 ⟨q6,rfl,e6,G6,own6,nq6,ft6,hU6⟩
      clear hrep
      have hlow:∀ k∈w3.heap.size :: instK.foot (⟨qh,.slice s1 qbs.length t1,qbs,.slice s2 qrs.length t2,qrs,.slice s3 qds.length t3,qds⟩:InstQ),Y.heap.size≤k:=fun k hk=>by
       rcases List.mem_cons.1 hk with rfl | hk
       ·exact hY3
       ·exact L5 k hk
      replace Rb:Blk X6 w.heap.size 39 _:=(hU6.block _ Rb.lt (fun hx=>by have:=hlow _ hx;omega)).trans Rb
      replace BC:Blk X6 w2.heap.size 37 _:=(hU6.block _ BC.lt (fun hx=>by have:=hlow _ hx;omega)).trans BC
      replace hB:=Out.keep hB hU6 hB.size (fun k hk=>by have:=hlow k hk;omega)
      have HFT:Hid (∀ k∈instK.foot q6,w.heap.size < k):=fun k hk=>by
       rcases ft6 k hk with h | h
       ·have:=L5 k h;omega
       ·omega
      have HE6:Hid (q6.e=_):=e6
      rw [hQR] at HE6
      rw [hQR]
      clear Gz own5 nq5 L5 M5 hlow hU6 ft6 e6 hQR hwelQ
      generalize rpC pe.rounds (r + 1) n=RC at *
      by_cases hrc:RC=0
      case neg=>
       have E1:Hid (D=RC∧E=ine0∧K0=0∧K1=false∧K2=false∧K3=0):=F6.out hrc
       have hrc' : (RC != 0)=true:=by simpa using hrc
       clear F6 F0 hrc
       go_wp2_with fail
       refine (l6Bad_any RC _).mono ?_
       rintro e w8 ⟨rfl,hb8⟩
       replace hB:=hB.trans (hb8.mono hB.size)
       replace Rb:=Rb.below hb8
       clear hb8
       have Rr:=Rb.row #[.int .i64 RC,.int .i64 0,.bool false,.bool false,.int .i64 0,.bool false,.slice none 0 0,.slice none 0 0,.slice none 0 0]
       have hBr:=below_row hB (g:=w.heap.size) (by omega) #[.int .i64 RC,.int .i64 0,.bool false,.bool false,.int .i64 0,.bool false,.slice none 0 0,.slice none 0 0,.slice none 0 0]
       have hsr:(Tryz.prog.info? 39).map (·.size)=some (#[.int .i64 RC,.int .i64 0,.bool false,.bool false,.int .i64 0,.bool false,.slice none 0 0,.slice none 0 0,.slice none 0 0]:Array Value).size:=sz_res
       go_wp2_with (first | (refine st_row (by kernel_rfl) 39 _ _ rfl _ #[.int .i64 RC,.int .i64 0,.bool false,.bool false,.int .i64 0,.bool false,.slice none 0 0,.slice none 0 0,.slice none 0 0] rfl rfl 39 _ Rb hsr rfl (by simp [Value.oneCell']) ?_))
       obtain ⟨q0,q1,q2,q3,q4,q5,q6,q7,q8⟩:=Rr.cel9
       exact bodyPost_ret (v:=.agg #[.int .i64 RC,.int .i64 0,.bool false,.bool false,.int .i64 0,.bool false,.slice none 0 0,.slice none 0 0,.slice none 0 0]) (by simp [results,Tryz.results50,go_sem,q0,q1,q2,q3,q4,q5,q6,q7,q8]) rfl ⟨inst0,by rw [E1.out.1,E1.out.2.2.1,E1.out.2.2.2.1,E1.out.2.2.2.2.1,E1.out.2.2.2.2.2];rfl,E1.out.2.1.symm,inst0_own _,inst0_nd,fun k hk=>by rw [inst0_ft] at hk;simp at hk,hBr⟩

      case pos=>
       have E1:Hid _:=F0.out hrc
       subst hrc
       clear F6 F0
       have hous:∀ cs,instK.own (X6.setRow w.heap.size cs) q6:=fun cs=>instK.own_out own6 (out_row _ w.heap.size cs) (fun k hk=>by have:=HFT.out k hk;simp only [List.mem_singleton];omega)
       have HQ:Hid (q6.e=E∧(instK.foot q6).Nodup∧(∀ k∈instK.foot q6,w.heap.size≤k)∧∀ cs,instK.own (X6.setRow w.heap.size cs) q6):=⟨by rw [E1.out.2.1];exact HE6.out,nq6,fun k hk=>by have:=HFT.out k hk;omega,hous⟩
       have HD0:Hid (D=0∧K0=0∧K1=false∧K2=CK∧K3=CV):=⟨E1.out.1,E1.out.2.2⟩
       clear E1 HE6 hous nq6 HFT
       obtain ⟨jh,jb,jbs,jr,jrs,jd,jds⟩:=q6
       obtain ⟨j1,u1,rfl⟩:∃ a c,jb=.slice a jbs.length c:=own6.1.shape
       obtain ⟨j2,u2,rfl⟩:∃ a c,jr=.slice a jrs.length c:=own6.2.1.shape
       obtain ⟨j3,u3,rfl⟩:∃ a c,jd=.slice a jds.length c:=own6.2.2.shape
       clear own6
       have Rr:=Rb.row #[.int .i64 0,.int .i64 0,.bool false,.bool CK,.int .i64 CV,.bool jh,.slice j1 jbs.length u1,.slice j2 jrs.length u2,.slice j3 jds.length u3]
       have hBr:=below_row hB (g:=w.heap.size) (Nat.le_refl _) #[.int .i64 0,.int .i64 0,.bool false,.bool CK,.int .i64 CV,.bool jh,.slice j1 jbs.length u1,.slice j2 jrs.length u2,.slice j3 jds.length u3]
       have hsr:(Tryz.prog.info? 39).map (·.size)=some (#[.int .i64 0,.int .i64 0,.bool false,.bool CK,.int .i64 CV,.bool jh,.slice j1 jbs.length u1,.slice j2 jrs.length u2,.slice j3 jds.length u3]:Array Value).size:=sz_res
       obtain ⟨z0,z1,z2,z3⟩:=G6.cel4
       obtain ⟨c0,c1,c2,c3⟩:=BC.cel4
       dsimp only at z0 z1 z2 z3
       go_wp2_with (first | (refine st_row (by kernel_rfl) 39 _ _ rfl _ #[.int .i64 0,.int .i64 0,.bool false,.bool CK,.int .i64 CV,.bool jh,.slice j1 jbs.length u1,.slice j2 jrs.length u2,.slice j3 jds.length u3] rfl rfl 39 _ Rb hsr rfl (by simp [Value.oneCell']) ?_))
       obtain ⟨q0,q1,q2,q3,q4,q5,q6,q7,q8⟩:=Rr.cel9
       exact bodyPost_ret (v:=.agg #[.int .i64 0,.int .i64 0,.bool false,.bool CK,.int .i64 CV,.bool jh,.slice j1 jbs.length u1,.slice j2 jrs.length u2,.slice j3 jds.length u3]) (by simp [results,Tryz.results50,go_sem,q0,q1,q2,q3,q4,q5,q6,q7,q8]) rfl ⟨⟨jh,.slice j1 jbs.length u1,jbs,.slice j2 jrs.length u2,jrs,.slice j3 jds.length u3,jds⟩,by rw [HD0.out.1,HD0.out.2.1,HD0.out.2.2.1,HD0.out.2.2.2.1,HD0.out.2.2.2.2],HQ.out.1,HQ.out.2.2.2 _,HQ.out.2.1,HQ.out.2.2.1,hBr⟩

end Go.Proofs.YtdhdnppbgaikfaaGreatDoor

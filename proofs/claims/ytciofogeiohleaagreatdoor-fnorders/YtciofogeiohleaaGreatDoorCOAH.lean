/- Texts joined,with what the laws reach alone. -/
import Derived.Test.YtciofogeiohleaaGreatDoorCOAG
set_option linter.unusedVariables false
set_option linter.unusedSimpArgs false
set_option maxRecDepth 100000
set_option maxHeartbeats 8000000
namespace Go.Proofs.YtciofogeiohleaaGreatDoor
open Go.RowKit Go.BigFrame
theorem z1N(b o:Nat)(p:InstQ)(ah round ag L:Int)(w:World)(hP:InstP w b o p)(bx:b<w.heap.size)(hl:p.n≤1048576)(h0:insF p.e=0):
  Calls Tryz.prog 116 #[.pointer (some ⟨b,o,none⟩),.int .i64 ah,.int .i64 round,.int .i64 ag,.int .i64 L] w fun e w'=>∃q:InstQ,e=.returned (.agg (q0E (goC p.e ah round ag L) (goZ p.e ah round ag L) (goD p.e ah round ag L) (goK p.e ah round ag L) (goV p.e ah round ag L) q))∧q.e=goI p.e ah round ag L∧instK.own w' q∧(instK.foot q).Nodup∧(∀k∈instK.foot q,w.heap.size≤k)∧Below w.heap.size w w':=by
 obtain⟨bp,bq,bl⟩:=z1t h0;obtain⟨aF,⟨_,h4⟩,bm,hF,_⟩:=z2r h0;have az:=fun w h=>z1q p w h hl bp bq bl
 have bh:p.rounds.length≤4:=by have:p.e.rounds.length=p.rounds.length:=List.length_map _;omega
 have bc:=fun w' hP=>z4k b o p ah round w' hP bh
 have aW:=fun(r:Nat) (hr:r<p.e.rounds.length)=>z3c hP r (by have:p.e.rounds.length=p.rounds.length:=List.length_map _;omega) hF
 have aR:=True.intro;have HF:=z5h p.e ah round ag L;unfold q0F at HF;have HA:Hid (atC p.e ah round=if inB ah 0 2 && inB round 0 ((p.rounds.length:Int)-1)then 0 else 3):=by
  have:p.e.rounds.length=p.rounds.length:=List.length_map _;unfold atC;rw[if_pos h0,this];exact(rfl:_=_)
 have a8:Hid (p.e.dec.length=3):=bm;have be:Hid (p.e.rounds.length=p.rounds.length):=List.length_map _;have HH:Hid (p.e.has=p.has):=(rfl:_=_)
 generalize bt:(inB ah 0 2 && inB round 0 ((p.rounds.length:Int)-1))=AA at*;clear bt bp bq bl hF h0 bm;generalize goC p.e ah round ag L=D at*;generalize goI p.e ah round ag L=E at*;generalize goZ p.e ah round ag L=K0 at*;generalize goD p.e ah round ag L=K1 at*;generalize goK p.e ah round ag L=K2 at*;generalize goV p.e ah round ag L=K3 at*;generalize atC p.e ah round=C at*;replace HF:Hid _:=HF;have aY:=hP.rd;have aX:=fun(w':World) hb=>instK.rd_below (w':=w') aY hb
 generalize bv:p.e=pe at*;clear bv;obtain⟨has,vb,bb,vr,aP,vd,dec⟩:=p;obtain⟨ba,bk,rfl⟩:∃a c,vb=.slice a bb.length c:=aY.1.shape;obtain⟨va,vk,rfl⟩:∃a c,vr=.slice a aP.length c:=aY.2.1.shape;obtain⟨da,dk,rfl⟩:∃a c,vd=.slice a dec.length c:=aY.2.2.shape;dsimp only at az aX bh bc aW be HA HH;have hB:Below w.heap.size w (w.alloc (.cells #[.int .i64 0,.int .i64 0,.bool false,.bool false,.int .i64 0,.bool false,.slice none 0 0,.slice none 0 0,.slice none 0 0] 83)):=by go_grown
 have Rb:=Blk.new w 83 #[.int .i64 0,.int .i64 0,.bool false,.bool false,.int .i64 0,.bool false,.slice none 0 0,.slice none 0 0,.slice none 0 0];go_enter Tryz.func116,Tryz.ntmps116
 go_wp2_with fail
 generalize w.alloc (.cells #[.int .i64 0,.int .i64 0,.bool false,.bool false,.int .i64 0,.bool false,.slice none 0 0,.slice none 0 0,.slice none 0 0] 83)=W at*;refine(bc W (hP.below hB)).mono ?_;rintro e w1 ⟨rfl,bd⟩;replace Rb:=Rb.below bd;replace hB:=hB.trans (bd.mono hB.size);clear bd bc
 cases AA with
 |false=>
  have hC:C=3:=HA.out;have E1:Hid (D=3∧E=z1L∧K0=0∧K1=false∧K2=false∧K3=0):=by
   obtain⟨h1,h2⟩:=HF.out.1 (by rw[hC];decide);exact⟨h1.trans hC,h2⟩
  clear HF aW aR az hC HA
  go_wp2_with fail
  refine(z0s 3 _).mono ?_;rintro e w8 ⟨rfl,O⟩;replace hB:=hB.trans (O.mono hB.size);replace Rb:=Rb.below O;clear O;have Rr:=Rb.row #[.int .i64 3,.int .i64 0,.bool false,.bool false,.int .i64 0,.bool false,.slice none 0 0,.slice none 0 0,.slice none 0 0];have aa:=z0c hB (g:=w.heap.size) (by omega) #[.int .i64 3,.int .i64 0,.bool false,.bool false,.int .i64 0,.bool false,.slice none 0 0,.slice none 0 0,.slice none 0 0];have ab:(Tryz.prog.info? 83).map (·.size)=some (#[.int .i64 3,.int .i64 0,.bool false,.bool false,.int .i64 0,.bool false,.slice none 0 0,.slice none 0 0,.slice none 0 0]:Array Value).size:=z0v
  go_wp2_with (first|(refine z0d (by kernel_rfl) 83 _ _ rfl _ #[.int .i64 3,.int .i64 0,.bool false,.bool false,.int .i64 0,.bool false,.slice none 0 0,.slice none 0 0,.slice none 0 0] rfl rfl 83 _ Rb ab rfl (by simp[Value.oneCell']) ?_))
  obtain⟨q0,q1,q2,q3,q4,q5,q6,q7,q8⟩:=Rr.cel9;exact bodyPost_ret (v:=.agg #[.int .i64 3,.int .i64 0,.bool false,.bool false,.int .i64 0,.bool false,.slice none 0 0,.slice none 0 0,.slice none 0 0]) (by simp[results,Tryz.results116,go_sem,q0,q1,q2,q3,q4,q5,q6,q7,q8]) rfl ⟨z1l,by rw[E1.out.1,E1.out.2.2.1,E1.out.2.2.2.1,E1.out.2.2.2.2.1,E1.out.2.2.2.2.2];rfl,E1.out.2.1.symm,z0r _,z0C,fun k hk=>by rw[z0x]at hk;simp at hk,aa⟩
 |true=>
  have hC:C=0:=HA.out;obtain⟨bu,n,r,rfl,rfl,hn,hr,f8,fC,f6,f0⟩:=HF.out.2 hC;have F8:Hid _:=f8;have a7:Hid _:=fC;have a6:Hid _:=f6;have a2:Hid _:=f0;clear bu f8 fC f6 f0 HF hC HA;obtain⟨rb,ro,bC,xb,xo,xc,yb,yo,yc,br,k0,k1,kx,ky,Rx,Ry⟩:=aW r hr;simp only[Value.slice.injEq,true_and]at br;obtain⟨rfl,rfl⟩:=br;replace kx:=kx n hn;replace ky:=ky n hn;replace k0:=z03 k0 hB;replace k1:=z03 k1 hB;replace kx:=z03 kx hB;replace ky:=z03 ky hB;have bi:=hP.below hB;obtain⟨d0,d1,d2,d3⟩:=bi.box;dsimp only at d0 d1 d2 d3;have bA:(r:Int)<aP.length:=by have:=be.out;omega
  have bz:(n:Int)<3:=by omega
  have bB:(r:Int)+1≤4:=by omega
  have bn:=(z1o aF r hr).2;have aM:=fun a c w (hR:Row .i64 w a (pe.rounds.getD r rnd0).pro)=>z2q a c (pe.rounds.getD r rnd0).pro ag (coF pe.has L) w hR (by omega)
  rw[bn]at aM;generalize bw:proA pe.rounds r n=PP at*;clear bw aW bn bi Rx;by_cases aK:PP=3
  case pos=>
   have E1:Hid (D=8∧E=z1L∧K0=0∧K1=false∧K2=false∧K3=0):=F8.out aK;have hq:(PP==3)=true:=by rw[aK];rfl
   clear F8 a7 a6 a2 aK aR az aM
   go_wp2_with fail
   refine(z0s 8 _).mono ?_;rintro e w8 ⟨rfl,O⟩;replace hB:=hB.trans (O.mono hB.size);replace Rb:=Rb.below O;clear O;have Rr:=Rb.row #[.int .i64 8,.int .i64 0,.bool false,.bool false,.int .i64 0,.bool false,.slice none 0 0,.slice none 0 0,.slice none 0 0];have aa:=z0c hB (g:=w.heap.size) (by omega) #[.int .i64 8,.int .i64 0,.bool false,.bool false,.int .i64 0,.bool false,.slice none 0 0,.slice none 0 0,.slice none 0 0];have ab:(Tryz.prog.info? 83).map (·.size)=some (#[.int .i64 8,.int .i64 0,.bool false,.bool false,.int .i64 0,.bool false,.slice none 0 0,.slice none 0 0,.slice none 0 0]:Array Value).size:=z0v
   go_wp2_with (first|(refine z0d (by kernel_rfl) 83 _ _ rfl _ #[.int .i64 8,.int .i64 0,.bool false,.bool false,.int .i64 0,.bool false,.slice none 0 0,.slice none 0 0,.slice none 0 0] rfl rfl 83 _ Rb ab rfl (by simp[Value.oneCell']) ?_))
   obtain⟨q0,q1,q2,q3,q4,q5,q6,q7,q8⟩:=Rr.cel9;exact bodyPost_ret (v:=.agg #[.int .i64 8,.int .i64 0,.bool false,.bool false,.int .i64 0,.bool false,.slice none 0 0,.slice none 0 0,.slice none 0 0]) (by simp[results,Tryz.results116,go_sem,q0,q1,q2,q3,q4,q5,q6,q7,q8]) rfl ⟨z1l,by rw[E1.out.1,E1.out.2.2.1,E1.out.2.2.2.1,E1.out.2.2.2.2.1,E1.out.2.2.2.2.2];rfl,E1.out.2.1.symm,z0r _,z0C,fun k hk=>by rw[z0x]at hk;simp at hk,aa⟩
  case neg=>
   have hq:(PP==3)=false:=by simpa using aK
   have FC:Hid _:=a7.out aK;have F6:Hid _:=a6.out aK;have F0:Hid _:=a2.out aK;clear a7 a6 a2 F8 aK;have aQ:Hid (coF pe.has L=if L=1∧has=false then 0 else L):=by
    show coF pe.has L=_;rw[HH.out];rfl
   generalize chC (pe.rounds.getD r rnd0).pro ag (coF pe.has L)=CC at*;generalize cfD (pe.rounds.getD r rnd0).pro ag (coF pe.has L)=CD at*;generalize cfK (pe.rounds.getD r rnd0).pro ag (coF pe.has L)=CK at*;generalize cfV (pe.rounds.getD r rnd0).pro ag (coF pe.has L)=CV at*;generalize coF pe.has L=co at*;by_cases aN:L=1
   ·have aO:(L==1)=true:=by rw[aN];rfl
    cases has with
    |true=>
     have e:co=L:=by rw[aQ.out];exact if_neg (fun h=>by simp at h)
     subst e;clear aQ aN
     go_wp2_with fail
     clear kx ky k0 k1 d0 d1 d2 d3 hq aO;refine(aM _ _ w1 (Ry.below hB)).mono ?_;rintro e w2 ⟨rfl,av⟩;have J:Below w2.heap.size w2 (w2.alloc (.cells #[.int .i64 CC,.bool CD,.bool CK,.int .i64 CV] 81)):=by go_grown
     have BC:=Blk.new w2 81 #[.int .i64 CC,.bool CD,.bool CK,.int .i64 CV];have bg:w.heap.size<w2.heap.size:=(Rb.below av).lt;replace Rb:=(Rb.below av).below J;replace hB:=hB.trans (av.mono hB.size);replace hB:=hB.trans (J.mono hB.size);clear av aM J;by_cases an:CC=0
     case neg=>
      have E1:Hid (D=CC∧E=z1L∧K0=0∧K1=false∧K2=false∧K3=0):=FC.out an;have bf:(CC !=0)=true:=by simpa using an
      clear FC F6 F0 an aR az
      go_wp2_with fail
      refine(z0s CC _).mono ?_;rintro e w8 ⟨rfl,O⟩;replace hB:=hB.trans (O.mono hB.size);replace Rb:=Rb.below O;clear O;have Rr:=Rb.row #[.int .i64 CC,.int .i64 0,.bool false,.bool false,.int .i64 0,.bool false,.slice none 0 0,.slice none 0 0,.slice none 0 0];have aa:=z0c hB (g:=w.heap.size) (by omega) #[.int .i64 CC,.int .i64 0,.bool false,.bool false,.int .i64 0,.bool false,.slice none 0 0,.slice none 0 0,.slice none 0 0];have ab:(Tryz.prog.info? 83).map (·.size)=some (#[.int .i64 CC,.int .i64 0,.bool false,.bool false,.int .i64 0,.bool false,.slice none 0 0,.slice none 0 0,.slice none 0 0]:Array Value).size:=z0v
      go_wp2_with (first|(refine z0d (by kernel_rfl) 83 _ _ rfl _ #[.int .i64 CC,.int .i64 0,.bool false,.bool false,.int .i64 0,.bool false,.slice none 0 0,.slice none 0 0,.slice none 0 0] rfl rfl 83 _ Rb ab rfl (by simp[Value.oneCell']) ?_))
      obtain⟨q0,q1,q2,q3,q4,q5,q6,q7,q8⟩:=Rr.cel9;exact bodyPost_ret (v:=.agg #[.int .i64 CC,.int .i64 0,.bool false,.bool false,.int .i64 0,.bool false,.slice none 0 0,.slice none 0 0,.slice none 0 0]) (by simp[results,Tryz.results116,go_sem,q0,q1,q2,q3,q4,q5,q6,q7,q8]) rfl ⟨z1l,by rw[E1.out.1,E1.out.2.2.1,E1.out.2.2.2.1,E1.out.2.2.2.2.1,E1.out.2.2.2.2.2];rfl,E1.out.2.1.symm,z0r _,z0C,fun k hk=>by rw[z0x]at hk;simp at hk,aa⟩
     case pos=>
      replace F6:Hid _:=F6.out an;replace F0:Hid _:=F0.out an;subst an;clear FC;have ay:=hP.below hB;obtain⟨d0,d1,d2,d3⟩:=ay.box;dsimp only at d0 d1 d2 d3
      go_wp2_with fail
      clear d0 d1 d2 d3 ay;have bj:w2.heap.size<(w2.alloc (.cells #[.int .i64 0,.bool CD,.bool CK,.int .i64 CV] 81)).heap.size:=by simp
      generalize (w2.alloc (.cells #[.int .i64 0,.bool CD,.bool CK,.int .i64 CV] 81))=Y at*;refine(az Y (aX Y hB)).mono ?_;rintro e w3 ⟨q,rfl,eq,oq,nq,gq,ap⟩;have aI:Y.heap.size≤w3.heap.size:=ap.size;replace Rb:=Rb.below ap;replace BC:=BC.below ap;replace hB:=hB.trans (ap.mono hB.size);have M:=instK.own_lt oq;have aE:q.e.rounds=pe.rounds:=by rw[eq]
      have ai:q.rounds.length=pe.rounds.length:=by rw[←aE];exact(List.length_map _).symm
      have aG:Hid (q.e=pe):=eq;have aw:q.dec.length=3:=by
       have:q.e.dec=pe.dec:=by rw[eq]
       have h9:q.dec=pe.dec:=this;rw[h9];exact a8.out
      clear ap az eq;obtain⟨qh,qb,x,qr,d,qd,s⟩:=q;obtain⟨s1,t1,rfl⟩:∃a c,qb=.slice a x.length c:=oq.1.shape;obtain⟨s2,t2,rfl⟩:∃a c,qr=.slice a d.length c:=oq.2.1.shape;obtain⟨s3,t3,rfl⟩:∃a c,qd=.slice a s.length c:=oq.2.2.shape
      cases CD with
      |true=>
       simp only[if_true]at F0;obtain⟨g5,aH,ax,aJ,kc,kf,Z,ad⟩:=z3R oq nq n (by show n<s.length;have:s.length=3:=aw;omega) CV;have aS:s.length=3:=aw;replace ax:(Value.slice s3 s.length t3)=.slice (some ⟨g5,0,none⟩) s.length aH:=ax;simp only[Value.slice.injEq,true_and]at ax;obtain⟨rfl,rfl⟩:=ax;have aZ:Y.heap.size≤g5∧g5<w3.heap.size:=⟨gq g5 aJ,M g5 aJ⟩
       have aU:(w3.setCell ⟨g5,n,none⟩ (iv CV)).heap.size=w3.heap.size:=by simp
       have J:Below (w3.setCell ⟨g5,n,none⟩ (iv CV)).heap.size (w3.setCell ⟨g5,n,none⟩ (iv CV)) ((w3.setCell ⟨g5,n,none⟩ (iv CV)).alloc (.cells #[.bool qh,.slice s1 x.length t1,.slice s2 d.length t2,.slice (some ⟨g5,0,none⟩) s.length t3] 49)):=by go_grown
       have Gz:=Blk.new (w3.setCell ⟨g5,n,none⟩ (iv CV)) 49 #[.bool qh,.slice s1 x.length t1,.slice s2 d.length t2,.slice (some ⟨g5,0,none⟩) s.length t3];rw[aU]at Gz;replace Rb:=(Rb.other (b':=g5) (by omega) n (iv CV)).below J;have aC:Below w3.heap.size w3 (w3.alloc (.cells #[.bool qh,.slice s1 x.length t1,.slice s2 d.length t2,.slice (some ⟨g5,0,none⟩) s.length t3] 49)):=by go_grown
       have a1:=BC.cell 1 _ rfl;have a3:=BC.cell 3 _ rfl;have e1:=z03 a1 aC;have e3:=z03 a3 aC;clear aC;replace BC:=(BC.other (b':=g5) (by omega) n (iv CV)).below J;have aD:Below w.heap.size w (w3.setCell ⟨g5,n,none⟩ (iv CV)):=hB.setCell (p:=⟨g5,n,none⟩) (by show w.heap.size≤g5;omega) _;replace hB:=aD.trans (J.mono aD.size);replace Z:=instK.own_out (F:=[]) Z (Out.of_below J) (fun _ _=>by simp);have L5:∀k∈instK.foot (InstQ.setD (⟨qh,.slice s1 x.length t1,x,.slice s2 d.length t2,d,.slice (some ⟨g5,0,none⟩) s.length t3,s⟩:InstQ) n CV),Y.heap.size≤k:=fun k hk=>by rw[ad]at hk;exact gq k hk
       have M5:∀k∈instK.foot (InstQ.setD (⟨qh,.slice s1 x.length t1,x,.slice s2 d.length t2,d,.slice (some ⟨g5,0,none⟩) s.length t3,s⟩:InstQ) n CV),k<w3.heap.size:=fun k hk=>by rw[ad]at hk;exact M k hk
       have ar:(instK.foot (InstQ.setD (⟨qh,.slice s1 x.length t1,x,.slice s2 d.length t2,d,.slice (some ⟨g5,0,none⟩) s.length t3,s⟩:InstQ) n CV)).Nodup:=by rw[ad];exact nq
       have ae:(InstQ.setD (⟨qh,.slice s1 x.length t1,x,.slice s2 d.length t2,d,.slice (some ⟨g5,0,none⟩) s.length t3,s⟩:InstQ) n CV).e=⟨pe.has,pe.batch,pe.rounds,pe.dec.set n CV⟩:=by rw[z61,aG.out]
       have V:Wel (InstQ.setD (⟨qh,.slice s1 x.length t1,x,.slice s2 d.length t2,d,.slice (some ⟨g5,0,none⟩) s.length t3,s⟩:InstQ) n CV).e.rounds:=by rw[ae];exact aF
       have aB:(InstQ.setD (⟨qh,.slice s1 x.length t1,x,.slice s2 d.length t2,d,.slice (some ⟨g5,0,none⟩) s.length t3,s⟩:InstQ) n CV).rounds.length≤4:=by show d.length≤4;have:d.length=pe.rounds.length:=ai;omega
       have aA:0<(InstQ.setD (⟨qh,.slice s1 x.length t1,x,.slice s2 d.length t2,d,.slice (some ⟨g5,0,none⟩) s.length t3,s⟩:InstQ) n CV).rounds.length:=by show 0<d.length;have:d.length=pe.rounds.length:=ai;omega
       have aq:r+1≤(InstQ.setD (⟨qh,.slice s1 x.length t1,x,.slice s2 d.length t2,d,.slice (some ⟨g5,0,none⟩) s.length t3,s⟩:InstQ) n CV).rounds.length:=by show r+1≤d.length;have:d.length=pe.rounds.length:=ai;omega
       obtain⟨bs,aV⟩:∃z,w3.cell? ⟨g5,n,none⟩=some (iv z):=⟨_,kc⟩
       obtain⟨c0,c1,c2,c3⟩:=BC.cel4;clear kc J aD ad oq nq gq M aE aw ai;have bo:(n:Int)<s.length:=by omega
       clear aS
       go_wp2_with fail
       clear c0 c1 c2 c3 a1 a3 e1 e3 aV kf;have aT:=Gz.lt;generalize (w3.setCell ⟨g5,n,none⟩ (iv CV)).alloc (.cells #[.bool qh,.slice s1 x.length t1,.slice s2 d.length t2,.slice (some ⟨g5,0,none⟩) s.length t3] 49)=X at*;have ak:Calls Tryz.prog 174 #[.pointer (some ⟨w3.heap.size,0,none⟩),.int .i64 (n:Int),.int .i64 ((r:Int)+1),.int .i64 CV] X _:=z1b w3.heap.size (InstQ.setD (⟨qh,.slice s1 x.length t1,x,.slice s2 d.length t2,d,.slice (some ⟨g5,0,none⟩) s.length t3,s⟩:InstQ) n CV) n (r+1) CV X Gz Z ar (fun hx=>by have:=M5 _ hx;omega) V aB aA aq hn;refine ak.mono ?_;rintro e X6 ⟨q6,rfl,e6,G6,I,au,ao,af⟩;clear ak;have N:∀k∈w3.heap.size::instK.foot (InstQ.setD (⟨qh,.slice s1 x.length t1,x,.slice s2 d.length t2,d,.slice (some ⟨g5,0,none⟩) s.length t3,s⟩:InstQ) n CV),Y.heap.size≤k:=fun k hk=>by
        rcases List.mem_cons.1 hk with rfl|hk
        ·exact aI
        ·exact L5 k hk
       replace Rb:Blk X6 w.heap.size 83 _:=(af.block _ Rb.lt (fun hx=>by have:=N _ hx;omega)).trans Rb;replace BC:Blk X6 w2.heap.size 81 _:=(af.block _ BC.lt (fun hx=>by have:=N _ hx;omega)).trans BC;replace hB:=Out.keep hB af hB.size (fun k hk=>by have:=N k hk;omega);have am:Hid (∀k∈instK.foot q6,w.heap.size<k):=fun k hk=>by
        rcases ao k hk with h|h
        ·have:=L5 k h;omega
        ·omega
       have al:Hid (q6.e=_):=e6;rw[ae]at al;rw[ae];clear Gz Z ar L5 M5 N af ao e6 ae V;generalize rpC pe.rounds (r+1) n=RC at*;by_cases U:RC=0
       case neg=>
        have E1:Hid (D=RC∧E=z1L∧K0=0∧K1=false∧K2=false∧K3=0):=F6.out U;have aL:(RC !=0)=true:=by simpa using U
        clear F6 F0 U
        go_wp2_with fail
        refine(z0s RC _).mono ?_;rintro e w8 ⟨rfl,O⟩;replace hB:=hB.trans (O.mono hB.size);replace Rb:=Rb.below O;clear O;have Rr:=Rb.row #[.int .i64 RC,.int .i64 0,.bool false,.bool false,.int .i64 0,.bool false,.slice none 0 0,.slice none 0 0,.slice none 0 0];have aa:=z0c hB (g:=w.heap.size) (by omega) #[.int .i64 RC,.int .i64 0,.bool false,.bool false,.int .i64 0,.bool false,.slice none 0 0,.slice none 0 0,.slice none 0 0];have ab:(Tryz.prog.info? 83).map (·.size)=some (#[.int .i64 RC,.int .i64 0,.bool false,.bool false,.int .i64 0,.bool false,.slice none 0 0,.slice none 0 0,.slice none 0 0]:Array Value).size:=z0v
        go_wp2_with (first|(refine z0d (by kernel_rfl) 83 _ _ rfl _ #[.int .i64 RC,.int .i64 0,.bool false,.bool false,.int .i64 0,.bool false,.slice none 0 0,.slice none 0 0,.slice none 0 0] rfl rfl 83 _ Rb ab rfl (by simp[Value.oneCell']) ?_))
        obtain⟨q0,q1,q2,q3,q4,q5,q6,q7,q8⟩:=Rr.cel9;exact bodyPost_ret (v:=.agg #[.int .i64 RC,.int .i64 0,.bool false,.bool false,.int .i64 0,.bool false,.slice none 0 0,.slice none 0 0,.slice none 0 0]) (by simp[results,Tryz.results116,go_sem,q0,q1,q2,q3,q4,q5,q6,q7,q8]) rfl ⟨z1l,by rw[E1.out.1,E1.out.2.2.1,E1.out.2.2.2.1,E1.out.2.2.2.2.1,E1.out.2.2.2.2.2];rfl,E1.out.2.1.symm,z0r _,z0C,fun k hk=>by rw[z0x]at hk;simp at hk,aa⟩
       case pos=>
        have E1:Hid _:=F0.out U;subst U;clear F6 F0;have aj:∀cs,instK.own (X6.setRow w.heap.size cs) q6:=fun cs=>instK.own_out I (z0f _ w.heap.size cs) (fun k hk=>by have:=am.out k hk;simp only[List.mem_singleton];omega)
        have HQ:Hid (q6.e=E∧(instK.foot q6).Nodup∧(∀k∈instK.foot q6,w.heap.size≤k)∧∀cs,instK.own (X6.setRow w.heap.size cs) q6):=⟨by rw[E1.out.2.1];exact al.out,au,fun k hk=>by have:=am.out k hk;omega,aj⟩
        have T:Hid (D=0∧K0=0∧K1=true∧K2=CK∧K3=CV):=⟨E1.out.1,E1.out.2.2⟩
        clear E1 al aj au am;obtain⟨jh,jb,y,jr,G,jd,A⟩:=q6;obtain⟨j1,u1,rfl⟩:∃a c,jb=.slice a y.length c:=I.1.shape;obtain⟨j2,u2,rfl⟩:∃a c,jr=.slice a G.length c:=I.2.1.shape;obtain⟨j3,u3,rfl⟩:∃a c,jd=.slice a A.length c:=I.2.2.shape;clear I;have Rr:=Rb.row #[.int .i64 0,.int .i64 0,.bool true,.bool CK,.int .i64 CV,.bool jh,.slice j1 y.length u1,.slice j2 G.length u2,.slice j3 A.length u3];have aa:=z0c hB (g:=w.heap.size) (Nat.le_refl _) #[.int .i64 0,.int .i64 0,.bool true,.bool CK,.int .i64 CV,.bool jh,.slice j1 y.length u1,.slice j2 G.length u2,.slice j3 A.length u3];have ab:(Tryz.prog.info? 83).map (·.size)=some (#[.int .i64 0,.int .i64 0,.bool true,.bool CK,.int .i64 CV,.bool jh,.slice j1 y.length u1,.slice j2 G.length u2,.slice j3 A.length u3]:Array Value).size:=z0v;obtain⟨z0,z1,z2,z3⟩:=G6.cel4;obtain⟨c0,c1,c2,c3⟩:=BC.cel4;dsimp only at z0 z1 z2 z3
        go_wp2_with (first|(refine z0d (by kernel_rfl) 83 _ _ rfl _ #[.int .i64 0,.int .i64 0,.bool true,.bool CK,.int .i64 CV,.bool jh,.slice j1 y.length u1,.slice j2 G.length u2,.slice j3 A.length u3] rfl rfl 83 _ Rb ab rfl (by simp[Value.oneCell']) ?_))
        obtain⟨q0,q1,q2,q3,q4,q5,q6,q7,q8⟩:=Rr.cel9;exact bodyPost_ret (v:=.agg #[.int .i64 0,.int .i64 0,.bool true,.bool CK,.int .i64 CV,.bool jh,.slice j1 y.length u1,.slice j2 G.length u2,.slice j3 A.length u3]) (by simp[results,Tryz.results116,go_sem,q0,q1,q2,q3,q4,q5,q6,q7,q8]) rfl ⟨⟨jh,.slice j1 y.length u1,y,.slice j2 G.length u2,G,.slice j3 A.length u3,A⟩,by rw[T.out.1,T.out.2.1,T.out.2.2.1,T.out.2.2.2.1,T.out.2.2.2.2],HQ.out.1,HQ.out.2.2.2 _,HQ.out.2.1,HQ.out.2.2.1,aa⟩
      |false=>
       simp only[Bool.false_eq_true,if_false]at F0;have J:Below w3.heap.size w3 (w3.alloc (.cells #[.bool qh,.slice s1 x.length t1,.slice s2 d.length t2,.slice s3 s.length t3] 49)):=by go_grown
       have Gz:=Blk.new w3 49 #[.bool qh,.slice s1 x.length t1,.slice s2 d.length t2,.slice s3 s.length t3];replace Rb:=Rb.below J;have c1:=BC.cell 1 _ rfl;have c3:=BC.cell 3 _ rfl;replace BC:=BC.below J;have c0:=BC.cell 1 _ rfl;have c2:=BC.cell 3 _ rfl;replace hB:=hB.trans (J.mono hB.size);have Z:=instK.own_out (F:=[]) oq (Out.of_below J) (fun _ _=>by simp);have L5:=gq;have M5:=M;have ar:=nq;have ae:(InstQ.e (⟨qh,.slice s1 x.length t1,x,.slice s2 d.length t2,d,.slice s3 s.length t3,s⟩:InstQ))=⟨pe.has,pe.batch,pe.rounds,pe.dec⟩:=aG.out;have V:Wel (InstQ.e (⟨qh,.slice s1 x.length t1,x,.slice s2 d.length t2,d,.slice s3 s.length t3,s⟩:InstQ)).rounds:=by rw[ae];exact aF
       have aB:(InstQ.rounds (⟨qh,.slice s1 x.length t1,x,.slice s2 d.length t2,d,.slice s3 s.length t3,s⟩:InstQ)).length≤4:=by show d.length≤4;have:d.length=pe.rounds.length:=ai;omega
       have aA:0<(InstQ.rounds (⟨qh,.slice s1 x.length t1,x,.slice s2 d.length t2,d,.slice s3 s.length t3,s⟩:InstQ)).length:=by show 0<d.length;have:d.length=pe.rounds.length:=ai;omega
       have aq:r+1≤(InstQ.rounds (⟨qh,.slice s1 x.length t1,x,.slice s2 d.length t2,d,.slice s3 s.length t3,s⟩:InstQ)).length:=by show r+1≤d.length;have:d.length=pe.rounds.length:=ai;omega
       clear J oq nq gq M aE ai aw
       go_wp2_with fail
       clear c0 c1 c2 c3;have aT:=Gz.lt;generalize w3.alloc (.cells #[.bool qh,.slice s1 x.length t1,.slice s2 d.length t2,.slice s3 s.length t3] 49)=X at*;have ak:Calls Tryz.prog 174 #[.pointer (some ⟨w3.heap.size,0,none⟩),.int .i64 (n:Int),.int .i64 ((r:Int)+1),.int .i64 CV] X _:=z1b w3.heap.size (⟨qh,.slice s1 x.length t1,x,.slice s2 d.length t2,d,.slice s3 s.length t3,s⟩:InstQ) n (r+1) CV X Gz Z ar (fun hx=>by have:=M5 _ hx;omega) V aB aA aq hn;refine ak.mono ?_;rintro e X6 ⟨q6,rfl,e6,G6,I,au,ao,af⟩;clear ak;have N:∀k∈w3.heap.size::instK.foot (⟨qh,.slice s1 x.length t1,x,.slice s2 d.length t2,d,.slice s3 s.length t3,s⟩:InstQ),Y.heap.size≤k:=fun k hk=>by
        rcases List.mem_cons.1 hk with rfl|hk
        ·exact aI
        ·exact L5 k hk
       replace Rb:Blk X6 w.heap.size 83 _:=(af.block _ Rb.lt (fun hx=>by have:=N _ hx;omega)).trans Rb;replace BC:Blk X6 w2.heap.size 81 _:=(af.block _ BC.lt (fun hx=>by have:=N _ hx;omega)).trans BC;replace hB:=Out.keep hB af hB.size (fun k hk=>by have:=N k hk;omega);have am:Hid (∀k∈instK.foot q6,w.heap.size<k):=fun k hk=>by
        rcases ao k hk with h|h
        ·have:=L5 k h;omega
        ·omega
       have al:Hid (q6.e=_):=e6;rw[ae]at al;rw[ae];clear Gz Z ar L5 M5 N af ao e6 ae V;generalize rpC pe.rounds (r+1) n=RC at*;by_cases U:RC=0
       case neg=>
        have E1:Hid (D=RC∧E=z1L∧K0=0∧K1=false∧K2=false∧K3=0):=F6.out U;have aL:(RC !=0)=true:=by simpa using U
        clear F6 F0 U
        go_wp2_with fail
        refine(z0s RC _).mono ?_;rintro e w8 ⟨rfl,O⟩;replace hB:=hB.trans (O.mono hB.size);replace Rb:=Rb.below O;clear O;have Rr:=Rb.row #[.int .i64 RC,.int .i64 0,.bool false,.bool false,.int .i64 0,.bool false,.slice none 0 0,.slice none 0 0,.slice none 0 0];have aa:=z0c hB (g:=w.heap.size) (by omega) #[.int .i64 RC,.int .i64 0,.bool false,.bool false,.int .i64 0,.bool false,.slice none 0 0,.slice none 0 0,.slice none 0 0];have ab:(Tryz.prog.info? 83).map (·.size)=some (#[.int .i64 RC,.int .i64 0,.bool false,.bool false,.int .i64 0,.bool false,.slice none 0 0,.slice none 0 0,.slice none 0 0]:Array Value).size:=z0v
        go_wp2_with (first|(refine z0d (by kernel_rfl) 83 _ _ rfl _ #[.int .i64 RC,.int .i64 0,.bool false,.bool false,.int .i64 0,.bool false,.slice none 0 0,.slice none 0 0,.slice none 0 0] rfl rfl 83 _ Rb ab rfl (by simp[Value.oneCell']) ?_))
        obtain⟨q0,q1,q2,q3,q4,q5,q6,q7,q8⟩:=Rr.cel9;exact bodyPost_ret (v:=.agg #[.int .i64 RC,.int .i64 0,.bool false,.bool false,.int .i64 0,.bool false,.slice none 0 0,.slice none 0 0,.slice none 0 0]) (by simp[results,Tryz.results116,go_sem,q0,q1,q2,q3,q4,q5,q6,q7,q8]) rfl ⟨z1l,by rw[E1.out.1,E1.out.2.2.1,E1.out.2.2.2.1,E1.out.2.2.2.2.1,E1.out.2.2.2.2.2];rfl,E1.out.2.1.symm,z0r _,z0C,fun k hk=>by rw[z0x]at hk;simp at hk,aa⟩
       case pos=>
        have E1:Hid _:=F0.out U;subst U;clear F6 F0;have aj:∀cs,instK.own (X6.setRow w.heap.size cs) q6:=fun cs=>instK.own_out I (z0f _ w.heap.size cs) (fun k hk=>by have:=am.out k hk;simp only[List.mem_singleton];omega)
        have HQ:Hid (q6.e=E∧(instK.foot q6).Nodup∧(∀k∈instK.foot q6,w.heap.size≤k)∧∀cs,instK.own (X6.setRow w.heap.size cs) q6):=⟨by rw[E1.out.2.1];exact al.out,au,fun k hk=>by have:=am.out k hk;omega,aj⟩
        have T:Hid (D=0∧K0=0∧K1=false∧K2=CK∧K3=CV):=⟨E1.out.1,E1.out.2.2⟩
        clear E1 al aj au am;obtain⟨jh,jb,y,jr,G,jd,A⟩:=q6;obtain⟨j1,u1,rfl⟩:∃a c,jb=.slice a y.length c:=I.1.shape;obtain⟨j2,u2,rfl⟩:∃a c,jr=.slice a G.length c:=I.2.1.shape;obtain⟨j3,u3,rfl⟩:∃a c,jd=.slice a A.length c:=I.2.2.shape;clear I;have Rr:=Rb.row #[.int .i64 0,.int .i64 0,.bool false,.bool CK,.int .i64 CV,.bool jh,.slice j1 y.length u1,.slice j2 G.length u2,.slice j3 A.length u3];have aa:=z0c hB (g:=w.heap.size) (Nat.le_refl _) #[.int .i64 0,.int .i64 0,.bool false,.bool CK,.int .i64 CV,.bool jh,.slice j1 y.length u1,.slice j2 G.length u2,.slice j3 A.length u3];have ab:(Tryz.prog.info? 83).map (·.size)=some (#[.int .i64 0,.int .i64 0,.bool false,.bool CK,.int .i64 CV,.bool jh,.slice j1 y.length u1,.slice j2 G.length u2,.slice j3 A.length u3]:Array Value).size:=z0v;obtain⟨z0,z1,z2,z3⟩:=G6.cel4;obtain⟨c0,c1,c2,c3⟩:=BC.cel4;dsimp only at z0 z1 z2 z3
        go_wp2_with (first|(refine z0d (by kernel_rfl) 83 _ _ rfl _ #[.int .i64 0,.int .i64 0,.bool false,.bool CK,.int .i64 CV,.bool jh,.slice j1 y.length u1,.slice j2 G.length u2,.slice j3 A.length u3] rfl rfl 83 _ Rb ab rfl (by simp[Value.oneCell']) ?_))
        obtain⟨q0,q1,q2,q3,q4,q5,q6,q7,q8⟩:=Rr.cel9;exact bodyPost_ret (v:=.agg #[.int .i64 0,.int .i64 0,.bool false,.bool CK,.int .i64 CV,.bool jh,.slice j1 y.length u1,.slice j2 G.length u2,.slice j3 A.length u3]) (by simp[results,Tryz.results116,go_sem,q0,q1,q2,q3,q4,q5,q6,q7,q8]) rfl ⟨⟨jh,.slice j1 y.length u1,y,.slice j2 G.length u2,G,.slice j3 A.length u3,A⟩,by rw[T.out.1,T.out.2.1,T.out.2.2.1,T.out.2.2.2.1,T.out.2.2.2.2],HQ.out.1,HQ.out.2.2.2 _,HQ.out.2.1,HQ.out.2.2.1,aa⟩
    |false=>
     have e:co=0:=by rw[aQ.out];exact if_pos ⟨aN,rfl⟩
     subst e;clear aQ aN
     go_wp2_with fail
     clear kx ky k0 k1 d0 d1 d2 d3 hq aO;refine(aM _ _ w1 (Ry.below hB)).mono ?_;rintro e w2 ⟨rfl,av⟩;have J:Below w2.heap.size w2 (w2.alloc (.cells #[.int .i64 CC,.bool CD,.bool CK,.int .i64 CV] 81)):=by go_grown
     have BC:=Blk.new w2 81 #[.int .i64 CC,.bool CD,.bool CK,.int .i64 CV];have bg:w.heap.size<w2.heap.size:=(Rb.below av).lt;replace Rb:=(Rb.below av).below J;replace hB:=hB.trans (av.mono hB.size);replace hB:=hB.trans (J.mono hB.size);clear av aM J;by_cases an:CC=0
     case neg=>
      have E1:Hid (D=CC∧E=z1L∧K0=0∧K1=false∧K2=false∧K3=0):=FC.out an;have bf:(CC !=0)=true:=by simpa using an
      clear FC F6 F0 an aR az
      go_wp2_with fail
      refine(z0s CC _).mono ?_;rintro e w8 ⟨rfl,O⟩;replace hB:=hB.trans (O.mono hB.size);replace Rb:=Rb.below O;clear O;have Rr:=Rb.row #[.int .i64 CC,.int .i64 0,.bool false,.bool false,.int .i64 0,.bool false,.slice none 0 0,.slice none 0 0,.slice none 0 0];have aa:=z0c hB (g:=w.heap.size) (by omega) #[.int .i64 CC,.int .i64 0,.bool false,.bool false,.int .i64 0,.bool false,.slice none 0 0,.slice none 0 0,.slice none 0 0];have ab:(Tryz.prog.info? 83).map (·.size)=some (#[.int .i64 CC,.int .i64 0,.bool false,.bool false,.int .i64 0,.bool false,.slice none 0 0,.slice none 0 0,.slice none 0 0]:Array Value).size:=z0v
      go_wp2_with (first|(refine z0d (by kernel_rfl) 83 _ _ rfl _ #[.int .i64 CC,.int .i64 0,.bool false,.bool false,.int .i64 0,.bool false,.slice none 0 0,.slice none 0 0,.slice none 0 0] rfl rfl 83 _ Rb ab rfl (by simp[Value.oneCell']) ?_))
      obtain⟨q0,q1,q2,q3,q4,q5,q6,q7,q8⟩:=Rr.cel9;exact bodyPost_ret (v:=.agg #[.int .i64 CC,.int .i64 0,.bool false,.bool false,.int .i64 0,.bool false,.slice none 0 0,.slice none 0 0,.slice none 0 0]) (by simp[results,Tryz.results116,go_sem,q0,q1,q2,q3,q4,q5,q6,q7,q8]) rfl ⟨z1l,by rw[E1.out.1,E1.out.2.2.1,E1.out.2.2.2.1,E1.out.2.2.2.2.1,E1.out.2.2.2.2.2];rfl,E1.out.2.1.symm,z0r _,z0C,fun k hk=>by rw[z0x]at hk;simp at hk,aa⟩
     case pos=>
      replace F6:Hid _:=F6.out an;replace F0:Hid _:=F0.out an;subst an;clear FC;have ay:=hP.below hB;obtain⟨d0,d1,d2,d3⟩:=ay.box;dsimp only at d0 d1 d2 d3
      go_wp2_with fail
      clear d0 d1 d2 d3 ay;have bj:w2.heap.size<(w2.alloc (.cells #[.int .i64 0,.bool CD,.bool CK,.int .i64 CV] 81)).heap.size:=by simp
      generalize (w2.alloc (.cells #[.int .i64 0,.bool CD,.bool CK,.int .i64 CV] 81))=Y at*;refine(az Y (aX Y hB)).mono ?_;rintro e w3 ⟨q,rfl,eq,oq,nq,gq,ap⟩;have aI:Y.heap.size≤w3.heap.size:=ap.size;replace Rb:=Rb.below ap;replace BC:=BC.below ap;replace hB:=hB.trans (ap.mono hB.size);have M:=instK.own_lt oq;have aE:q.e.rounds=pe.rounds:=by rw[eq]
      have ai:q.rounds.length=pe.rounds.length:=by rw[←aE];exact(List.length_map _).symm
      have aG:Hid (q.e=pe):=eq;have aw:q.dec.length=3:=by
       have:q.e.dec=pe.dec:=by rw[eq]
       have h9:q.dec=pe.dec:=this;rw[h9];exact a8.out
      clear ap az eq;obtain⟨qh,qb,x,qr,d,qd,s⟩:=q;obtain⟨s1,t1,rfl⟩:∃a c,qb=.slice a x.length c:=oq.1.shape;obtain⟨s2,t2,rfl⟩:∃a c,qr=.slice a d.length c:=oq.2.1.shape;obtain⟨s3,t3,rfl⟩:∃a c,qd=.slice a s.length c:=oq.2.2.shape
      cases CD with
      |true=>
       simp only[if_true]at F0;obtain⟨g5,aH,ax,aJ,kc,kf,Z,ad⟩:=z3R oq nq n (by show n<s.length;have:s.length=3:=aw;omega) CV;have aS:s.length=3:=aw;replace ax:(Value.slice s3 s.length t3)=.slice (some ⟨g5,0,none⟩) s.length aH:=ax;simp only[Value.slice.injEq,true_and]at ax;obtain⟨rfl,rfl⟩:=ax;have aZ:Y.heap.size≤g5∧g5<w3.heap.size:=⟨gq g5 aJ,M g5 aJ⟩
       have aU:(w3.setCell ⟨g5,n,none⟩ (iv CV)).heap.size=w3.heap.size:=by simp
       have J:Below (w3.setCell ⟨g5,n,none⟩ (iv CV)).heap.size (w3.setCell ⟨g5,n,none⟩ (iv CV)) ((w3.setCell ⟨g5,n,none⟩ (iv CV)).alloc (.cells #[.bool qh,.slice s1 x.length t1,.slice s2 d.length t2,.slice (some ⟨g5,0,none⟩) s.length t3] 49)):=by go_grown
       have Gz:=Blk.new (w3.setCell ⟨g5,n,none⟩ (iv CV)) 49 #[.bool qh,.slice s1 x.length t1,.slice s2 d.length t2,.slice (some ⟨g5,0,none⟩) s.length t3];rw[aU]at Gz;replace Rb:=(Rb.other (b':=g5) (by omega) n (iv CV)).below J;have aC:Below w3.heap.size w3 (w3.alloc (.cells #[.bool qh,.slice s1 x.length t1,.slice s2 d.length t2,.slice (some ⟨g5,0,none⟩) s.length t3] 49)):=by go_grown
       have a1:=BC.cell 1 _ rfl;have a3:=BC.cell 3 _ rfl;have e1:=z03 a1 aC;have e3:=z03 a3 aC;clear aC;replace BC:=(BC.other (b':=g5) (by omega) n (iv CV)).below J;have aD:Below w.heap.size w (w3.setCell ⟨g5,n,none⟩ (iv CV)):=hB.setCell (p:=⟨g5,n,none⟩) (by show w.heap.size≤g5;omega) _;replace hB:=aD.trans (J.mono aD.size);replace Z:=instK.own_out (F:=[]) Z (Out.of_below J) (fun _ _=>by simp);have L5:∀k∈instK.foot (InstQ.setD (⟨qh,.slice s1 x.length t1,x,.slice s2 d.length t2,d,.slice (some ⟨g5,0,none⟩) s.length t3,s⟩:InstQ) n CV),Y.heap.size≤k:=fun k hk=>by rw[ad]at hk;exact gq k hk
       have M5:∀k∈instK.foot (InstQ.setD (⟨qh,.slice s1 x.length t1,x,.slice s2 d.length t2,d,.slice (some ⟨g5,0,none⟩) s.length t3,s⟩:InstQ) n CV),k<w3.heap.size:=fun k hk=>by rw[ad]at hk;exact M k hk
       have ar:(instK.foot (InstQ.setD (⟨qh,.slice s1 x.length t1,x,.slice s2 d.length t2,d,.slice (some ⟨g5,0,none⟩) s.length t3,s⟩:InstQ) n CV)).Nodup:=by rw[ad];exact nq
       have ae:(InstQ.setD (⟨qh,.slice s1 x.length t1,x,.slice s2 d.length t2,d,.slice (some ⟨g5,0,none⟩) s.length t3,s⟩:InstQ) n CV).e=⟨pe.has,pe.batch,pe.rounds,pe.dec.set n CV⟩:=by rw[z61,aG.out]
       have V:Wel (InstQ.setD (⟨qh,.slice s1 x.length t1,x,.slice s2 d.length t2,d,.slice (some ⟨g5,0,none⟩) s.length t3,s⟩:InstQ) n CV).e.rounds:=by rw[ae];exact aF
       have aB:(InstQ.setD (⟨qh,.slice s1 x.length t1,x,.slice s2 d.length t2,d,.slice (some ⟨g5,0,none⟩) s.length t3,s⟩:InstQ) n CV).rounds.length≤4:=by show d.length≤4;have:d.length=pe.rounds.length:=ai;omega
       have aA:0<(InstQ.setD (⟨qh,.slice s1 x.length t1,x,.slice s2 d.length t2,d,.slice (some ⟨g5,0,none⟩) s.length t3,s⟩:InstQ) n CV).rounds.length:=by show 0<d.length;have:d.length=pe.rounds.length:=ai;omega
       have aq:r+1≤(InstQ.setD (⟨qh,.slice s1 x.length t1,x,.slice s2 d.length t2,d,.slice (some ⟨g5,0,none⟩) s.length t3,s⟩:InstQ) n CV).rounds.length:=by show r+1≤d.length;have:d.length=pe.rounds.length:=ai;omega
       obtain⟨bs,aV⟩:∃z,w3.cell? ⟨g5,n,none⟩=some (iv z):=⟨_,kc⟩
       obtain⟨c0,c1,c2,c3⟩:=BC.cel4;clear kc J aD ad oq nq gq M aE aw ai;have bo:(n:Int)<s.length:=by omega
       clear aS
       go_wp2_with fail
       clear c0 c1 c2 c3 a1 a3 e1 e3 aV kf;have aT:=Gz.lt;generalize (w3.setCell ⟨g5,n,none⟩ (iv CV)).alloc (.cells #[.bool qh,.slice s1 x.length t1,.slice s2 d.length t2,.slice (some ⟨g5,0,none⟩) s.length t3] 49)=X at*;have ak:Calls Tryz.prog 174 #[.pointer (some ⟨w3.heap.size,0,none⟩),.int .i64 (n:Int),.int .i64 ((r:Int)+1),.int .i64 CV] X _:=z1b w3.heap.size (InstQ.setD (⟨qh,.slice s1 x.length t1,x,.slice s2 d.length t2,d,.slice (some ⟨g5,0,none⟩) s.length t3,s⟩:InstQ) n CV) n (r+1) CV X Gz Z ar (fun hx=>by have:=M5 _ hx;omega) V aB aA aq hn;refine ak.mono ?_;rintro e X6 ⟨q6,rfl,e6,G6,I,au,ao,af⟩;clear ak;have N:∀k∈w3.heap.size::instK.foot (InstQ.setD (⟨qh,.slice s1 x.length t1,x,.slice s2 d.length t2,d,.slice (some ⟨g5,0,none⟩) s.length t3,s⟩:InstQ) n CV),Y.heap.size≤k:=fun k hk=>by
        rcases List.mem_cons.1 hk with rfl|hk
        ·exact aI
        ·exact L5 k hk
       replace Rb:Blk X6 w.heap.size 83 _:=(af.block _ Rb.lt (fun hx=>by have:=N _ hx;omega)).trans Rb;replace BC:Blk X6 w2.heap.size 81 _:=(af.block _ BC.lt (fun hx=>by have:=N _ hx;omega)).trans BC;replace hB:=Out.keep hB af hB.size (fun k hk=>by have:=N k hk;omega);have am:Hid (∀k∈instK.foot q6,w.heap.size<k):=fun k hk=>by
        rcases ao k hk with h|h
        ·have:=L5 k h;omega
        ·omega
       have al:Hid (q6.e=_):=e6;rw[ae]at al;rw[ae];clear Gz Z ar L5 M5 N af ao e6 ae V;generalize rpC pe.rounds (r+1) n=RC at*;by_cases U:RC=0
       case neg=>
        have E1:Hid (D=RC∧E=z1L∧K0=0∧K1=false∧K2=false∧K3=0):=F6.out U;have aL:(RC !=0)=true:=by simpa using U
        clear F6 F0 U
        go_wp2_with fail
        refine(z0s RC _).mono ?_;rintro e w8 ⟨rfl,O⟩;replace hB:=hB.trans (O.mono hB.size);replace Rb:=Rb.below O;clear O;have Rr:=Rb.row #[.int .i64 RC,.int .i64 0,.bool false,.bool false,.int .i64 0,.bool false,.slice none 0 0,.slice none 0 0,.slice none 0 0];have aa:=z0c hB (g:=w.heap.size) (by omega) #[.int .i64 RC,.int .i64 0,.bool false,.bool false,.int .i64 0,.bool false,.slice none 0 0,.slice none 0 0,.slice none 0 0];have ab:(Tryz.prog.info? 83).map (·.size)=some (#[.int .i64 RC,.int .i64 0,.bool false,.bool false,.int .i64 0,.bool false,.slice none 0 0,.slice none 0 0,.slice none 0 0]:Array Value).size:=z0v
        go_wp2_with (first|(refine z0d (by kernel_rfl) 83 _ _ rfl _ #[.int .i64 RC,.int .i64 0,.bool false,.bool false,.int .i64 0,.bool false,.slice none 0 0,.slice none 0 0,.slice none 0 0] rfl rfl 83 _ Rb ab rfl (by simp[Value.oneCell']) ?_))
        obtain⟨q0,q1,q2,q3,q4,q5,q6,q7,q8⟩:=Rr.cel9;exact bodyPost_ret (v:=.agg #[.int .i64 RC,.int .i64 0,.bool false,.bool false,.int .i64 0,.bool false,.slice none 0 0,.slice none 0 0,.slice none 0 0]) (by simp[results,Tryz.results116,go_sem,q0,q1,q2,q3,q4,q5,q6,q7,q8]) rfl ⟨z1l,by rw[E1.out.1,E1.out.2.2.1,E1.out.2.2.2.1,E1.out.2.2.2.2.1,E1.out.2.2.2.2.2];rfl,E1.out.2.1.symm,z0r _,z0C,fun k hk=>by rw[z0x]at hk;simp at hk,aa⟩
       case pos=>
        have E1:Hid _:=F0.out U;subst U;clear F6 F0;have aj:∀cs,instK.own (X6.setRow w.heap.size cs) q6:=fun cs=>instK.own_out I (z0f _ w.heap.size cs) (fun k hk=>by have:=am.out k hk;simp only[List.mem_singleton];omega)
        have HQ:Hid (q6.e=E∧(instK.foot q6).Nodup∧(∀k∈instK.foot q6,w.heap.size≤k)∧∀cs,instK.own (X6.setRow w.heap.size cs) q6):=⟨by rw[E1.out.2.1];exact al.out,au,fun k hk=>by have:=am.out k hk;omega,aj⟩
        have T:Hid (D=0∧K0=0∧K1=true∧K2=CK∧K3=CV):=⟨E1.out.1,E1.out.2.2⟩
        clear E1 al aj au am;obtain⟨jh,jb,y,jr,G,jd,A⟩:=q6;obtain⟨j1,u1,rfl⟩:∃a c,jb=.slice a y.length c:=I.1.shape;obtain⟨j2,u2,rfl⟩:∃a c,jr=.slice a G.length c:=I.2.1.shape;obtain⟨j3,u3,rfl⟩:∃a c,jd=.slice a A.length c:=I.2.2.shape;clear I;have Rr:=Rb.row #[.int .i64 0,.int .i64 0,.bool true,.bool CK,.int .i64 CV,.bool jh,.slice j1 y.length u1,.slice j2 G.length u2,.slice j3 A.length u3];have aa:=z0c hB (g:=w.heap.size) (Nat.le_refl _) #[.int .i64 0,.int .i64 0,.bool true,.bool CK,.int .i64 CV,.bool jh,.slice j1 y.length u1,.slice j2 G.length u2,.slice j3 A.length u3];have ab:(Tryz.prog.info? 83).map (·.size)=some (#[.int .i64 0,.int .i64 0,.bool true,.bool CK,.int .i64 CV,.bool jh,.slice j1 y.length u1,.slice j2 G.length u2,.slice j3 A.length u3]:Array Value).size:=z0v;obtain⟨z0,z1,z2,z3⟩:=G6.cel4;obtain⟨c0,c1,c2,c3⟩:=BC.cel4;dsimp only at z0 z1 z2 z3
        go_wp2_with (first|(refine z0d (by kernel_rfl) 83 _ _ rfl _ #[.int .i64 0,.int .i64 0,.bool true,.bool CK,.int .i64 CV,.bool jh,.slice j1 y.length u1,.slice j2 G.length u2,.slice j3 A.length u3] rfl rfl 83 _ Rb ab rfl (by simp[Value.oneCell']) ?_))
        obtain⟨q0,q1,q2,q3,q4,q5,q6,q7,q8⟩:=Rr.cel9;exact bodyPost_ret (v:=.agg #[.int .i64 0,.int .i64 0,.bool true,.bool CK,.int .i64 CV,.bool jh,.slice j1 y.length u1,.slice j2 G.length u2,.slice j3 A.length u3]) (by simp[results,Tryz.results116,go_sem,q0,q1,q2,q3,q4,q5,q6,q7,q8]) rfl ⟨⟨jh,.slice j1 y.length u1,y,.slice j2 G.length u2,G,.slice j3 A.length u3,A⟩,by rw[T.out.1,T.out.2.1,T.out.2.2.1,T.out.2.2.2.1,T.out.2.2.2.2],HQ.out.1,HQ.out.2.2.2 _,HQ.out.2.1,HQ.out.2.2.1,aa⟩
      |false=>
       simp only[Bool.false_eq_true,if_false]at F0;have J:Below w3.heap.size w3 (w3.alloc (.cells #[.bool qh,.slice s1 x.length t1,.slice s2 d.length t2,.slice s3 s.length t3] 49)):=by go_grown
       have Gz:=Blk.new w3 49 #[.bool qh,.slice s1 x.length t1,.slice s2 d.length t2,.slice s3 s.length t3];replace Rb:=Rb.below J;have c1:=BC.cell 1 _ rfl;have c3:=BC.cell 3 _ rfl;replace BC:=BC.below J;have c0:=BC.cell 1 _ rfl;have c2:=BC.cell 3 _ rfl;replace hB:=hB.trans (J.mono hB.size);have Z:=instK.own_out (F:=[]) oq (Out.of_below J) (fun _ _=>by simp);have L5:=gq;have M5:=M;have ar:=nq;have ae:(InstQ.e (⟨qh,.slice s1 x.length t1,x,.slice s2 d.length t2,d,.slice s3 s.length t3,s⟩:InstQ))=⟨pe.has,pe.batch,pe.rounds,pe.dec⟩:=aG.out;have V:Wel (InstQ.e (⟨qh,.slice s1 x.length t1,x,.slice s2 d.length t2,d,.slice s3 s.length t3,s⟩:InstQ)).rounds:=by rw[ae];exact aF
       have aB:(InstQ.rounds (⟨qh,.slice s1 x.length t1,x,.slice s2 d.length t2,d,.slice s3 s.length t3,s⟩:InstQ)).length≤4:=by show d.length≤4;have:d.length=pe.rounds.length:=ai;omega
       have aA:0<(InstQ.rounds (⟨qh,.slice s1 x.length t1,x,.slice s2 d.length t2,d,.slice s3 s.length t3,s⟩:InstQ)).length:=by show 0<d.length;have:d.length=pe.rounds.length:=ai;omega
       have aq:r+1≤(InstQ.rounds (⟨qh,.slice s1 x.length t1,x,.slice s2 d.length t2,d,.slice s3 s.length t3,s⟩:InstQ)).length:=by show r+1≤d.length;have:d.length=pe.rounds.length:=ai;omega
       clear J oq nq gq M aE ai aw
       go_wp2_with fail
       clear c0 c1 c2 c3;have aT:=Gz.lt;generalize w3.alloc (.cells #[.bool qh,.slice s1 x.length t1,.slice s2 d.length t2,.slice s3 s.length t3] 49)=X at*;have ak:Calls Tryz.prog 174 #[.pointer (some ⟨w3.heap.size,0,none⟩),.int .i64 (n:Int),.int .i64 ((r:Int)+1),.int .i64 CV] X _:=z1b w3.heap.size (⟨qh,.slice s1 x.length t1,x,.slice s2 d.length t2,d,.slice s3 s.length t3,s⟩:InstQ) n (r+1) CV X Gz Z ar (fun hx=>by have:=M5 _ hx;omega) V aB aA aq hn;refine ak.mono ?_;rintro e X6 ⟨q6,rfl,e6,G6,I,au,ao,af⟩;clear ak;have N:∀k∈w3.heap.size::instK.foot (⟨qh,.slice s1 x.length t1,x,.slice s2 d.length t2,d,.slice s3 s.length t3,s⟩:InstQ),Y.heap.size≤k:=fun k hk=>by
        rcases List.mem_cons.1 hk with rfl|hk
        ·exact aI
        ·exact L5 k hk
       replace Rb:Blk X6 w.heap.size 83 _:=(af.block _ Rb.lt (fun hx=>by have:=N _ hx;omega)).trans Rb;replace BC:Blk X6 w2.heap.size 81 _:=(af.block _ BC.lt (fun hx=>by have:=N _ hx;omega)).trans BC;replace hB:=Out.keep hB af hB.size (fun k hk=>by have:=N k hk;omega);have am:Hid (∀k∈instK.foot q6,w.heap.size<k):=fun k hk=>by
        rcases ao k hk with h|h
        ·have:=L5 k h;omega
        ·omega
       have al:Hid (q6.e=_):=e6;rw[ae]at al;rw[ae];clear Gz Z ar L5 M5 N af ao e6 ae V;generalize rpC pe.rounds (r+1) n=RC at*;by_cases U:RC=0
       case neg=>
        have E1:Hid (D=RC∧E=z1L∧K0=0∧K1=false∧K2=false∧K3=0):=F6.out U;have aL:(RC !=0)=true:=by simpa using U
        clear F6 F0 U
        go_wp2_with fail
        refine(z0s RC _).mono ?_;rintro e w8 ⟨rfl,O⟩;replace hB:=hB.trans (O.mono hB.size);replace Rb:=Rb.below O;clear O;have Rr:=Rb.row #[.int .i64 RC,.int .i64 0,.bool false,.bool false,.int .i64 0,.bool false,.slice none 0 0,.slice none 0 0,.slice none 0 0];have aa:=z0c hB (g:=w.heap.size) (by omega) #[.int .i64 RC,.int .i64 0,.bool false,.bool false,.int .i64 0,.bool false,.slice none 0 0,.slice none 0 0,.slice none 0 0];have ab:(Tryz.prog.info? 83).map (·.size)=some (#[.int .i64 RC,.int .i64 0,.bool false,.bool false,.int .i64 0,.bool false,.slice none 0 0,.slice none 0 0,.slice none 0 0]:Array Value).size:=z0v
        go_wp2_with (first|(refine z0d (by kernel_rfl) 83 _ _ rfl _ #[.int .i64 RC,.int .i64 0,.bool false,.bool false,.int .i64 0,.bool false,.slice none 0 0,.slice none 0 0,.slice none 0 0] rfl rfl 83 _ Rb ab rfl (by simp[Value.oneCell']) ?_))
        obtain⟨q0,q1,q2,q3,q4,q5,q6,q7,q8⟩:=Rr.cel9;exact bodyPost_ret (v:=.agg #[.int .i64 RC,.int .i64 0,.bool false,.bool false,.int .i64 0,.bool false,.slice none 0 0,.slice none 0 0,.slice none 0 0]) (by simp[results,Tryz.results116,go_sem,q0,q1,q2,q3,q4,q5,q6,q7,q8]) rfl ⟨z1l,by rw[E1.out.1,E1.out.2.2.1,E1.out.2.2.2.1,E1.out.2.2.2.2.1,E1.out.2.2.2.2.2];rfl,E1.out.2.1.symm,z0r _,z0C,fun k hk=>by rw[z0x]at hk;simp at hk,aa⟩
       case pos=>
        have E1:Hid _:=F0.out U;subst U;clear F6 F0;have aj:∀cs,instK.own (X6.setRow w.heap.size cs) q6:=fun cs=>instK.own_out I (z0f _ w.heap.size cs) (fun k hk=>by have:=am.out k hk;simp only[List.mem_singleton];omega)
        have HQ:Hid (q6.e=E∧(instK.foot q6).Nodup∧(∀k∈instK.foot q6,w.heap.size≤k)∧∀cs,instK.own (X6.setRow w.heap.size cs) q6):=⟨by rw[E1.out.2.1];exact al.out,au,fun k hk=>by have:=am.out k hk;omega,aj⟩
        have T:Hid (D=0∧K0=0∧K1=false∧K2=CK∧K3=CV):=⟨E1.out.1,E1.out.2.2⟩
        clear E1 al aj au am;obtain⟨jh,jb,y,jr,G,jd,A⟩:=q6;obtain⟨j1,u1,rfl⟩:∃a c,jb=.slice a y.length c:=I.1.shape;obtain⟨j2,u2,rfl⟩:∃a c,jr=.slice a G.length c:=I.2.1.shape;obtain⟨j3,u3,rfl⟩:∃a c,jd=.slice a A.length c:=I.2.2.shape;clear I;have Rr:=Rb.row #[.int .i64 0,.int .i64 0,.bool false,.bool CK,.int .i64 CV,.bool jh,.slice j1 y.length u1,.slice j2 G.length u2,.slice j3 A.length u3];have aa:=z0c hB (g:=w.heap.size) (Nat.le_refl _) #[.int .i64 0,.int .i64 0,.bool false,.bool CK,.int .i64 CV,.bool jh,.slice j1 y.length u1,.slice j2 G.length u2,.slice j3 A.length u3];have ab:(Tryz.prog.info? 83).map (·.size)=some (#[.int .i64 0,.int .i64 0,.bool false,.bool CK,.int .i64 CV,.bool jh,.slice j1 y.length u1,.slice j2 G.length u2,.slice j3 A.length u3]:Array Value).size:=z0v;obtain⟨z0,z1,z2,z3⟩:=G6.cel4;obtain⟨c0,c1,c2,c3⟩:=BC.cel4;dsimp only at z0 z1 z2 z3
        go_wp2_with (first|(refine z0d (by kernel_rfl) 83 _ _ rfl _ #[.int .i64 0,.int .i64 0,.bool false,.bool CK,.int .i64 CV,.bool jh,.slice j1 y.length u1,.slice j2 G.length u2,.slice j3 A.length u3] rfl rfl 83 _ Rb ab rfl (by simp[Value.oneCell']) ?_))
        obtain⟨q0,q1,q2,q3,q4,q5,q6,q7,q8⟩:=Rr.cel9;exact bodyPost_ret (v:=.agg #[.int .i64 0,.int .i64 0,.bool false,.bool CK,.int .i64 CV,.bool jh,.slice j1 y.length u1,.slice j2 G.length u2,.slice j3 A.length u3]) (by simp[results,Tryz.results116,go_sem,q0,q1,q2,q3,q4,q5,q6,q7,q8]) rfl ⟨⟨jh,.slice j1 y.length u1,y,.slice j2 G.length u2,G,.slice j3 A.length u3,A⟩,by rw[T.out.1,T.out.2.1,T.out.2.2.1,T.out.2.2.2.1,T.out.2.2.2.2],HQ.out.1,HQ.out.2.2.2 _,HQ.out.2.1,HQ.out.2.2.1,aa⟩
   ·have aO:(L==1)=false:=by simpa using aN
    have e:co=L:=by rw[aQ.out];exact if_neg (fun h=>aN h.1)
    subst e;clear aQ aN
    go_wp2_with fail
    clear kx ky k0 k1 d0 d1 d2 d3 hq aO;refine(aM _ _ w1 (Ry.below hB)).mono ?_;rintro e w2 ⟨rfl,av⟩;have J:Below w2.heap.size w2 (w2.alloc (.cells #[.int .i64 CC,.bool CD,.bool CK,.int .i64 CV] 81)):=by go_grown
    have BC:=Blk.new w2 81 #[.int .i64 CC,.bool CD,.bool CK,.int .i64 CV];have bg:w.heap.size<w2.heap.size:=(Rb.below av).lt;replace Rb:=(Rb.below av).below J;replace hB:=hB.trans (av.mono hB.size);replace hB:=hB.trans (J.mono hB.size);clear av aM J;by_cases an:CC=0
    case neg=>
     have E1:Hid (D=CC∧E=z1L∧K0=0∧K1=false∧K2=false∧K3=0):=FC.out an;have bf:(CC !=0)=true:=by simpa using an
     clear FC F6 F0 an aR az
     go_wp2_with fail
     refine(z0s CC _).mono ?_;rintro e w8 ⟨rfl,O⟩;replace hB:=hB.trans (O.mono hB.size);replace Rb:=Rb.below O;clear O;have Rr:=Rb.row #[.int .i64 CC,.int .i64 0,.bool false,.bool false,.int .i64 0,.bool false,.slice none 0 0,.slice none 0 0,.slice none 0 0];have aa:=z0c hB (g:=w.heap.size) (by omega) #[.int .i64 CC,.int .i64 0,.bool false,.bool false,.int .i64 0,.bool false,.slice none 0 0,.slice none 0 0,.slice none 0 0];have ab:(Tryz.prog.info? 83).map (·.size)=some (#[.int .i64 CC,.int .i64 0,.bool false,.bool false,.int .i64 0,.bool false,.slice none 0 0,.slice none 0 0,.slice none 0 0]:Array Value).size:=z0v
     go_wp2_with (first|(refine z0d (by kernel_rfl) 83 _ _ rfl _ #[.int .i64 CC,.int .i64 0,.bool false,.bool false,.int .i64 0,.bool false,.slice none 0 0,.slice none 0 0,.slice none 0 0] rfl rfl 83 _ Rb ab rfl (by simp[Value.oneCell']) ?_))
     obtain⟨q0,q1,q2,q3,q4,q5,q6,q7,q8⟩:=Rr.cel9;exact bodyPost_ret (v:=.agg #[.int .i64 CC,.int .i64 0,.bool false,.bool false,.int .i64 0,.bool false,.slice none 0 0,.slice none 0 0,.slice none 0 0]) (by simp[results,Tryz.results116,go_sem,q0,q1,q2,q3,q4,q5,q6,q7,q8]) rfl ⟨z1l,by rw[E1.out.1,E1.out.2.2.1,E1.out.2.2.2.1,E1.out.2.2.2.2.1,E1.out.2.2.2.2.2];rfl,E1.out.2.1.symm,z0r _,z0C,fun k hk=>by rw[z0x]at hk;simp at hk,aa⟩
    case pos=>
     replace F6:Hid _:=F6.out an;replace F0:Hid _:=F0.out an;subst an;clear FC;have ay:=hP.below hB;obtain⟨d0,d1,d2,d3⟩:=ay.box;dsimp only at d0 d1 d2 d3
     go_wp2_with fail
     clear d0 d1 d2 d3 ay;have bj:w2.heap.size<(w2.alloc (.cells #[.int .i64 0,.bool CD,.bool CK,.int .i64 CV] 81)).heap.size:=by simp
     generalize (w2.alloc (.cells #[.int .i64 0,.bool CD,.bool CK,.int .i64 CV] 81))=Y at*;refine(az Y (aX Y hB)).mono ?_;rintro e w3 ⟨q,rfl,eq,oq,nq,gq,ap⟩;have aI:Y.heap.size≤w3.heap.size:=ap.size;replace Rb:=Rb.below ap;replace BC:=BC.below ap;replace hB:=hB.trans (ap.mono hB.size);have M:=instK.own_lt oq;have aE:q.e.rounds=pe.rounds:=by rw[eq]
     have ai:q.rounds.length=pe.rounds.length:=by rw[←aE];exact(List.length_map _).symm
     have aG:Hid (q.e=pe):=eq;have aw:q.dec.length=3:=by
      have:q.e.dec=pe.dec:=by rw[eq]
      have h9:q.dec=pe.dec:=this;rw[h9];exact a8.out
     clear ap az eq;obtain⟨qh,qb,x,qr,d,qd,s⟩:=q;obtain⟨s1,t1,rfl⟩:∃a c,qb=.slice a x.length c:=oq.1.shape;obtain⟨s2,t2,rfl⟩:∃a c,qr=.slice a d.length c:=oq.2.1.shape;obtain⟨s3,t3,rfl⟩:∃a c,qd=.slice a s.length c:=oq.2.2.shape
     cases CD with
     |true=>
      simp only[if_true]at F0;obtain⟨g5,aH,ax,aJ,kc,kf,Z,ad⟩:=z3R oq nq n (by show n<s.length;have:s.length=3:=aw;omega) CV;have aS:s.length=3:=aw;replace ax:(Value.slice s3 s.length t3)=.slice (some ⟨g5,0,none⟩) s.length aH:=ax;simp only[Value.slice.injEq,true_and]at ax;obtain⟨rfl,rfl⟩:=ax;have aZ:Y.heap.size≤g5∧g5<w3.heap.size:=⟨gq g5 aJ,M g5 aJ⟩
      have aU:(w3.setCell ⟨g5,n,none⟩ (iv CV)).heap.size=w3.heap.size:=by simp
      have J:Below (w3.setCell ⟨g5,n,none⟩ (iv CV)).heap.size (w3.setCell ⟨g5,n,none⟩ (iv CV)) ((w3.setCell ⟨g5,n,none⟩ (iv CV)).alloc (.cells #[.bool qh,.slice s1 x.length t1,.slice s2 d.length t2,.slice (some ⟨g5,0,none⟩) s.length t3] 49)):=by go_grown
      have Gz:=Blk.new (w3.setCell ⟨g5,n,none⟩ (iv CV)) 49 #[.bool qh,.slice s1 x.length t1,.slice s2 d.length t2,.slice (some ⟨g5,0,none⟩) s.length t3];rw[aU]at Gz;replace Rb:=(Rb.other (b':=g5) (by omega) n (iv CV)).below J;have aC:Below w3.heap.size w3 (w3.alloc (.cells #[.bool qh,.slice s1 x.length t1,.slice s2 d.length t2,.slice (some ⟨g5,0,none⟩) s.length t3] 49)):=by go_grown
      have a1:=BC.cell 1 _ rfl;have a3:=BC.cell 3 _ rfl;have e1:=z03 a1 aC;have e3:=z03 a3 aC;clear aC;replace BC:=(BC.other (b':=g5) (by omega) n (iv CV)).below J;have aD:Below w.heap.size w (w3.setCell ⟨g5,n,none⟩ (iv CV)):=hB.setCell (p:=⟨g5,n,none⟩) (by show w.heap.size≤g5;omega) _;replace hB:=aD.trans (J.mono aD.size);replace Z:=instK.own_out (F:=[]) Z (Out.of_below J) (fun _ _=>by simp);have L5:∀k∈instK.foot (InstQ.setD (⟨qh,.slice s1 x.length t1,x,.slice s2 d.length t2,d,.slice (some ⟨g5,0,none⟩) s.length t3,s⟩:InstQ) n CV),Y.heap.size≤k:=fun k hk=>by rw[ad]at hk;exact gq k hk
      have M5:∀k∈instK.foot (InstQ.setD (⟨qh,.slice s1 x.length t1,x,.slice s2 d.length t2,d,.slice (some ⟨g5,0,none⟩) s.length t3,s⟩:InstQ) n CV),k<w3.heap.size:=fun k hk=>by rw[ad]at hk;exact M k hk
      have ar:(instK.foot (InstQ.setD (⟨qh,.slice s1 x.length t1,x,.slice s2 d.length t2,d,.slice (some ⟨g5,0,none⟩) s.length t3,s⟩:InstQ) n CV)).Nodup:=by rw[ad];exact nq
      have ae:(InstQ.setD (⟨qh,.slice s1 x.length t1,x,.slice s2 d.length t2,d,.slice (some ⟨g5,0,none⟩) s.length t3,s⟩:InstQ) n CV).e=⟨pe.has,pe.batch,pe.rounds,pe.dec.set n CV⟩:=by rw[z61,aG.out]
      have V:Wel (InstQ.setD (⟨qh,.slice s1 x.length t1,x,.slice s2 d.length t2,d,.slice (some ⟨g5,0,none⟩) s.length t3,s⟩:InstQ) n CV).e.rounds:=by rw[ae];exact aF
      have aB:(InstQ.setD (⟨qh,.slice s1 x.length t1,x,.slice s2 d.length t2,d,.slice (some ⟨g5,0,none⟩) s.length t3,s⟩:InstQ) n CV).rounds.length≤4:=by show d.length≤4;have:d.length=pe.rounds.length:=ai;omega
      have aA:0<(InstQ.setD (⟨qh,.slice s1 x.length t1,x,.slice s2 d.length t2,d,.slice (some ⟨g5,0,none⟩) s.length t3,s⟩:InstQ) n CV).rounds.length:=by show 0<d.length;have:d.length=pe.rounds.length:=ai;omega
      have aq:r+1≤(InstQ.setD (⟨qh,.slice s1 x.length t1,x,.slice s2 d.length t2,d,.slice (some ⟨g5,0,none⟩) s.length t3,s⟩:InstQ) n CV).rounds.length:=by show r+1≤d.length;have:d.length=pe.rounds.length:=ai;omega
      obtain⟨bs,aV⟩:∃z,w3.cell? ⟨g5,n,none⟩=some (iv z):=⟨_,kc⟩
      obtain⟨c0,c1,c2,c3⟩:=BC.cel4;clear kc J aD ad oq nq gq M aE aw ai;have bo:(n:Int)<s.length:=by omega
      clear aS
      go_wp2_with fail
      clear c0 c1 c2 c3 a1 a3 e1 e3 aV kf;have aT:=Gz.lt;generalize (w3.setCell ⟨g5,n,none⟩ (iv CV)).alloc (.cells #[.bool qh,.slice s1 x.length t1,.slice s2 d.length t2,.slice (some ⟨g5,0,none⟩) s.length t3] 49)=X at*;have ak:Calls Tryz.prog 174 #[.pointer (some ⟨w3.heap.size,0,none⟩),.int .i64 (n:Int),.int .i64 ((r:Int)+1),.int .i64 CV] X _:=z1b w3.heap.size (InstQ.setD (⟨qh,.slice s1 x.length t1,x,.slice s2 d.length t2,d,.slice (some ⟨g5,0,none⟩) s.length t3,s⟩:InstQ) n CV) n (r+1) CV X Gz Z ar (fun hx=>by have:=M5 _ hx;omega) V aB aA aq hn;refine ak.mono ?_;rintro e X6 ⟨q6,rfl,e6,G6,I,au,ao,af⟩;clear ak;have N:∀k∈w3.heap.size::instK.foot (InstQ.setD (⟨qh,.slice s1 x.length t1,x,.slice s2 d.length t2,d,.slice (some ⟨g5,0,none⟩) s.length t3,s⟩:InstQ) n CV),Y.heap.size≤k:=fun k hk=>by
       rcases List.mem_cons.1 hk with rfl|hk
       ·exact aI
       ·exact L5 k hk
      replace Rb:Blk X6 w.heap.size 83 _:=(af.block _ Rb.lt (fun hx=>by have:=N _ hx;omega)).trans Rb;replace BC:Blk X6 w2.heap.size 81 _:=(af.block _ BC.lt (fun hx=>by have:=N _ hx;omega)).trans BC;replace hB:=Out.keep hB af hB.size (fun k hk=>by have:=N k hk;omega);have am:Hid (∀k∈instK.foot q6,w.heap.size<k):=fun k hk=>by
       rcases ao k hk with h|h
       ·have:=L5 k h;omega
       ·omega
      have al:Hid (q6.e=_):=e6;rw[ae]at al;rw[ae];clear Gz Z ar L5 M5 N af ao e6 ae V;generalize rpC pe.rounds (r+1) n=RC at*;by_cases U:RC=0
      case neg=>
       have E1:Hid (D=RC∧E=z1L∧K0=0∧K1=false∧K2=false∧K3=0):=F6.out U;have aL:(RC !=0)=true:=by simpa using U
       clear F6 F0 U
       go_wp2_with fail
       refine(z0s RC _).mono ?_;rintro e w8 ⟨rfl,O⟩;replace hB:=hB.trans (O.mono hB.size);replace Rb:=Rb.below O;clear O;have Rr:=Rb.row #[.int .i64 RC,.int .i64 0,.bool false,.bool false,.int .i64 0,.bool false,.slice none 0 0,.slice none 0 0,.slice none 0 0];have aa:=z0c hB (g:=w.heap.size) (by omega) #[.int .i64 RC,.int .i64 0,.bool false,.bool false,.int .i64 0,.bool false,.slice none 0 0,.slice none 0 0,.slice none 0 0];have ab:(Tryz.prog.info? 83).map (·.size)=some (#[.int .i64 RC,.int .i64 0,.bool false,.bool false,.int .i64 0,.bool false,.slice none 0 0,.slice none 0 0,.slice none 0 0]:Array Value).size:=z0v
       go_wp2_with (first|(refine z0d (by kernel_rfl) 83 _ _ rfl _ #[.int .i64 RC,.int .i64 0,.bool false,.bool false,.int .i64 0,.bool false,.slice none 0 0,.slice none 0 0,.slice none 0 0] rfl rfl 83 _ Rb ab rfl (by simp[Value.oneCell']) ?_))
       obtain⟨q0,q1,q2,q3,q4,q5,q6,q7,q8⟩:=Rr.cel9;exact bodyPost_ret (v:=.agg #[.int .i64 RC,.int .i64 0,.bool false,.bool false,.int .i64 0,.bool false,.slice none 0 0,.slice none 0 0,.slice none 0 0]) (by simp[results,Tryz.results116,go_sem,q0,q1,q2,q3,q4,q5,q6,q7,q8]) rfl ⟨z1l,by rw[E1.out.1,E1.out.2.2.1,E1.out.2.2.2.1,E1.out.2.2.2.2.1,E1.out.2.2.2.2.2];rfl,E1.out.2.1.symm,z0r _,z0C,fun k hk=>by rw[z0x]at hk;simp at hk,aa⟩
      case pos=>
       have E1:Hid _:=F0.out U;subst U;clear F6 F0;have aj:∀cs,instK.own (X6.setRow w.heap.size cs) q6:=fun cs=>instK.own_out I (z0f _ w.heap.size cs) (fun k hk=>by have:=am.out k hk;simp only[List.mem_singleton];omega)
       have HQ:Hid (q6.e=E∧(instK.foot q6).Nodup∧(∀k∈instK.foot q6,w.heap.size≤k)∧∀cs,instK.own (X6.setRow w.heap.size cs) q6):=⟨by rw[E1.out.2.1];exact al.out,au,fun k hk=>by have:=am.out k hk;omega,aj⟩
       have T:Hid (D=0∧K0=0∧K1=true∧K2=CK∧K3=CV):=⟨E1.out.1,E1.out.2.2⟩
       clear E1 al aj au am;obtain⟨jh,jb,y,jr,G,jd,A⟩:=q6;obtain⟨j1,u1,rfl⟩:∃a c,jb=.slice a y.length c:=I.1.shape;obtain⟨j2,u2,rfl⟩:∃a c,jr=.slice a G.length c:=I.2.1.shape;obtain⟨j3,u3,rfl⟩:∃a c,jd=.slice a A.length c:=I.2.2.shape;clear I;have Rr:=Rb.row #[.int .i64 0,.int .i64 0,.bool true,.bool CK,.int .i64 CV,.bool jh,.slice j1 y.length u1,.slice j2 G.length u2,.slice j3 A.length u3];have aa:=z0c hB (g:=w.heap.size) (Nat.le_refl _) #[.int .i64 0,.int .i64 0,.bool true,.bool CK,.int .i64 CV,.bool jh,.slice j1 y.length u1,.slice j2 G.length u2,.slice j3 A.length u3];have ab:(Tryz.prog.info? 83).map (·.size)=some (#[.int .i64 0,.int .i64 0,.bool true,.bool CK,.int .i64 CV,.bool jh,.slice j1 y.length u1,.slice j2 G.length u2,.slice j3 A.length u3]:Array Value).size:=z0v;obtain⟨z0,z1,z2,z3⟩:=G6.cel4;obtain⟨c0,c1,c2,c3⟩:=BC.cel4;dsimp only at z0 z1 z2 z3
       go_wp2_with (first|(refine z0d (by kernel_rfl) 83 _ _ rfl _ #[.int .i64 0,.int .i64 0,.bool true,.bool CK,.int .i64 CV,.bool jh,.slice j1 y.length u1,.slice j2 G.length u2,.slice j3 A.length u3] rfl rfl 83 _ Rb ab rfl (by simp[Value.oneCell']) ?_))
       obtain⟨q0,q1,q2,q3,q4,q5,q6,q7,q8⟩:=Rr.cel9;exact bodyPost_ret (v:=.agg #[.int .i64 0,.int .i64 0,.bool true,.bool CK,.int .i64 CV,.bool jh,.slice j1 y.length u1,.slice j2 G.length u2,.slice j3 A.length u3]) (by simp[results,Tryz.results116,go_sem,q0,q1,q2,q3,q4,q5,q6,q7,q8]) rfl ⟨⟨jh,.slice j1 y.length u1,y,.slice j2 G.length u2,G,.slice j3 A.length u3,A⟩,by rw[T.out.1,T.out.2.1,T.out.2.2.1,T.out.2.2.2.1,T.out.2.2.2.2],HQ.out.1,HQ.out.2.2.2 _,HQ.out.2.1,HQ.out.2.2.1,aa⟩
     |false=>
      simp only[Bool.false_eq_true,if_false]at F0;have J:Below w3.heap.size w3 (w3.alloc (.cells #[.bool qh,.slice s1 x.length t1,.slice s2 d.length t2,.slice s3 s.length t3] 49)):=by go_grown
      have Gz:=Blk.new w3 49 #[.bool qh,.slice s1 x.length t1,.slice s2 d.length t2,.slice s3 s.length t3];replace Rb:=Rb.below J;have c1:=BC.cell 1 _ rfl;have c3:=BC.cell 3 _ rfl;replace BC:=BC.below J;have c0:=BC.cell 1 _ rfl;have c2:=BC.cell 3 _ rfl;replace hB:=hB.trans (J.mono hB.size);have Z:=instK.own_out (F:=[]) oq (Out.of_below J) (fun _ _=>by simp);have L5:=gq;have M5:=M;have ar:=nq;have ae:(InstQ.e (⟨qh,.slice s1 x.length t1,x,.slice s2 d.length t2,d,.slice s3 s.length t3,s⟩:InstQ))=⟨pe.has,pe.batch,pe.rounds,pe.dec⟩:=aG.out;have V:Wel (InstQ.e (⟨qh,.slice s1 x.length t1,x,.slice s2 d.length t2,d,.slice s3 s.length t3,s⟩:InstQ)).rounds:=by rw[ae];exact aF
      have aB:(InstQ.rounds (⟨qh,.slice s1 x.length t1,x,.slice s2 d.length t2,d,.slice s3 s.length t3,s⟩:InstQ)).length≤4:=by show d.length≤4;have:d.length=pe.rounds.length:=ai;omega
      have aA:0<(InstQ.rounds (⟨qh,.slice s1 x.length t1,x,.slice s2 d.length t2,d,.slice s3 s.length t3,s⟩:InstQ)).length:=by show 0<d.length;have:d.length=pe.rounds.length:=ai;omega
      have aq:r+1≤(InstQ.rounds (⟨qh,.slice s1 x.length t1,x,.slice s2 d.length t2,d,.slice s3 s.length t3,s⟩:InstQ)).length:=by show r+1≤d.length;have:d.length=pe.rounds.length:=ai;omega
      clear J oq nq gq M aE ai aw
      go_wp2_with fail
      clear c0 c1 c2 c3;have aT:=Gz.lt;generalize w3.alloc (.cells #[.bool qh,.slice s1 x.length t1,.slice s2 d.length t2,.slice s3 s.length t3] 49)=X at*;have ak:Calls Tryz.prog 174 #[.pointer (some ⟨w3.heap.size,0,none⟩),.int .i64 (n:Int),.int .i64 ((r:Int)+1),.int .i64 CV] X _:=z1b w3.heap.size (⟨qh,.slice s1 x.length t1,x,.slice s2 d.length t2,d,.slice s3 s.length t3,s⟩:InstQ) n (r+1) CV X Gz Z ar (fun hx=>by have:=M5 _ hx;omega) V aB aA aq hn;refine ak.mono ?_;rintro e X6 ⟨q6,rfl,e6,G6,I,au,ao,af⟩;clear ak;have N:∀k∈w3.heap.size::instK.foot (⟨qh,.slice s1 x.length t1,x,.slice s2 d.length t2,d,.slice s3 s.length t3,s⟩:InstQ),Y.heap.size≤k:=fun k hk=>by
       rcases List.mem_cons.1 hk with rfl|hk
       ·exact aI
       ·exact L5 k hk
      replace Rb:Blk X6 w.heap.size 83 _:=(af.block _ Rb.lt (fun hx=>by have:=N _ hx;omega)).trans Rb;replace BC:Blk X6 w2.heap.size 81 _:=(af.block _ BC.lt (fun hx=>by have:=N _ hx;omega)).trans BC;replace hB:=Out.keep hB af hB.size (fun k hk=>by have:=N k hk;omega);have am:Hid (∀k∈instK.foot q6,w.heap.size<k):=fun k hk=>by
       rcases ao k hk with h|h
       ·have:=L5 k h;omega
       ·omega
      have al:Hid (q6.e=_):=e6;rw[ae]at al;rw[ae];clear Gz Z ar L5 M5 N af ao e6 ae V;generalize rpC pe.rounds (r+1) n=RC at*;by_cases U:RC=0
      case neg=>
       have E1:Hid (D=RC∧E=z1L∧K0=0∧K1=false∧K2=false∧K3=0):=F6.out U;have aL:(RC !=0)=true:=by simpa using U
       clear F6 F0 U
       go_wp2_with fail
       refine(z0s RC _).mono ?_;rintro e w8 ⟨rfl,O⟩;replace hB:=hB.trans (O.mono hB.size);replace Rb:=Rb.below O;clear O;have Rr:=Rb.row #[.int .i64 RC,.int .i64 0,.bool false,.bool false,.int .i64 0,.bool false,.slice none 0 0,.slice none 0 0,.slice none 0 0];have aa:=z0c hB (g:=w.heap.size) (by omega) #[.int .i64 RC,.int .i64 0,.bool false,.bool false,.int .i64 0,.bool false,.slice none 0 0,.slice none 0 0,.slice none 0 0];have ab:(Tryz.prog.info? 83).map (·.size)=some (#[.int .i64 RC,.int .i64 0,.bool false,.bool false,.int .i64 0,.bool false,.slice none 0 0,.slice none 0 0,.slice none 0 0]:Array Value).size:=z0v
       go_wp2_with (first|(refine z0d (by kernel_rfl) 83 _ _ rfl _ #[.int .i64 RC,.int .i64 0,.bool false,.bool false,.int .i64 0,.bool false,.slice none 0 0,.slice none 0 0,.slice none 0 0] rfl rfl 83 _ Rb ab rfl (by simp[Value.oneCell']) ?_))
       obtain⟨q0,q1,q2,q3,q4,q5,q6,q7,q8⟩:=Rr.cel9;exact bodyPost_ret (v:=.agg #[.int .i64 RC,.int .i64 0,.bool false,.bool false,.int .i64 0,.bool false,.slice none 0 0,.slice none 0 0,.slice none 0 0]) (by simp[results,Tryz.results116,go_sem,q0,q1,q2,q3,q4,q5,q6,q7,q8]) rfl ⟨z1l,by rw[E1.out.1,E1.out.2.2.1,E1.out.2.2.2.1,E1.out.2.2.2.2.1,E1.out.2.2.2.2.2];rfl,E1.out.2.1.symm,z0r _,z0C,fun k hk=>by rw[z0x]at hk;simp at hk,aa⟩
      case pos=>
       have E1:Hid _:=F0.out U;subst U;clear F6 F0;have aj:∀cs,instK.own (X6.setRow w.heap.size cs) q6:=fun cs=>instK.own_out I (z0f _ w.heap.size cs) (fun k hk=>by have:=am.out k hk;simp only[List.mem_singleton];omega)
       have HQ:Hid (q6.e=E∧(instK.foot q6).Nodup∧(∀k∈instK.foot q6,w.heap.size≤k)∧∀cs,instK.own (X6.setRow w.heap.size cs) q6):=⟨by rw[E1.out.2.1];exact al.out,au,fun k hk=>by have:=am.out k hk;omega,aj⟩
       have T:Hid (D=0∧K0=0∧K1=false∧K2=CK∧K3=CV):=⟨E1.out.1,E1.out.2.2⟩
       clear E1 al aj au am;obtain⟨jh,jb,y,jr,G,jd,A⟩:=q6;obtain⟨j1,u1,rfl⟩:∃a c,jb=.slice a y.length c:=I.1.shape;obtain⟨j2,u2,rfl⟩:∃a c,jr=.slice a G.length c:=I.2.1.shape;obtain⟨j3,u3,rfl⟩:∃a c,jd=.slice a A.length c:=I.2.2.shape;clear I;have Rr:=Rb.row #[.int .i64 0,.int .i64 0,.bool false,.bool CK,.int .i64 CV,.bool jh,.slice j1 y.length u1,.slice j2 G.length u2,.slice j3 A.length u3];have aa:=z0c hB (g:=w.heap.size) (Nat.le_refl _) #[.int .i64 0,.int .i64 0,.bool false,.bool CK,.int .i64 CV,.bool jh,.slice j1 y.length u1,.slice j2 G.length u2,.slice j3 A.length u3];have ab:(Tryz.prog.info? 83).map (·.size)=some (#[.int .i64 0,.int .i64 0,.bool false,.bool CK,.int .i64 CV,.bool jh,.slice j1 y.length u1,.slice j2 G.length u2,.slice j3 A.length u3]:Array Value).size:=z0v;obtain⟨z0,z1,z2,z3⟩:=G6.cel4;obtain⟨c0,c1,c2,c3⟩:=BC.cel4;dsimp only at z0 z1 z2 z3
       go_wp2_with (first|(refine z0d (by kernel_rfl) 83 _ _ rfl _ #[.int .i64 0,.int .i64 0,.bool false,.bool CK,.int .i64 CV,.bool jh,.slice j1 y.length u1,.slice j2 G.length u2,.slice j3 A.length u3] rfl rfl 83 _ Rb ab rfl (by simp[Value.oneCell']) ?_))
       obtain⟨q0,q1,q2,q3,q4,q5,q6,q7,q8⟩:=Rr.cel9;exact bodyPost_ret (v:=.agg #[.int .i64 0,.int .i64 0,.bool false,.bool CK,.int .i64 CV,.bool jh,.slice j1 y.length u1,.slice j2 G.length u2,.slice j3 A.length u3]) (by simp[results,Tryz.results116,go_sem,q0,q1,q2,q3,q4,q5,q6,q7,q8]) rfl ⟨⟨jh,.slice j1 y.length u1,y,.slice j2 G.length u2,G,.slice j3 A.length u3,A⟩,by rw[T.out.1,T.out.2.1,T.out.2.2.1,T.out.2.2.2.1,T.out.2.2.2.2],HQ.out.1,HQ.out.2.2.2 _,HQ.out.2.1,HQ.out.2.2.1,aa⟩
theorem z1k{P:Type}(nm:P→Nat)(c:Nat)(ps:List P)(h:∀p∈ps,nm p≤c):nmL nm ps≤ps.length*c:=by
 induction ps with
 |nil=>simp[nmL]
 |cons p t ih=>
  have h1:=h p (by simp);have h2:=ih (fun q hq=>h q (List.mem_cons_of_mem _ hq));simp only[nmL,List.map_cons,List.sum_cons,List.length_cons]at h2⊢;rw[Nat.add_mul];omega
theorem z66{ds:List TxnD}(h:allF ds=0):∀d∈ds,d.F=0:=by
 induction ds with
 |nil=>intro d hd;simp at hd
 |cons x r ih=>
  intro d hd;simp only[allF]at h;by_cases hx:x.F=0
  ·rw[if_pos hx]at h;rcases List.mem_cons.1 hd with rfl|hd
   ·exact hx
   ·exact ih h d hd
  ·rw[if_neg hx]at h;exact absurd h hx
theorem z7t{d:TxnD}(h:d.F=0):d.acts.length≤4:=by
 unfold TxnD.F txnF at h;split at h
 ·omega
 ·split at h
  ·omega
  ·omega
theorem z8q{ds:List TxnD}(h:batF ds=0):z6j ds≤20:=by
 unfold batF at h;split at h
 ·omega
 ·rename_i hl
  have ha:allF ds=0:=by
   split at h
   ·assumption
   ·exact h
  have:=z1k TxnD.n 4 ds (fun d hd=>z7t (z66 ha d hd));unfold z6j;omega
theorem z0w{x:InstE}(h:insF x=0):InstE.n x≤60:=by
 obtain⟨hw,⟨_,h4⟩,hd,_⟩:=z2r h;obtain⟨h6,_⟩:=z1p h;obtain⟨_,_,_,h7,h8⟩:=z05 h6;have hb:z6j x.batch≤20:=by
  cases hh:x.has with
  |true=>exact z8q (h8 hh)
  |false=>rw[h7 hh];simp[z6j,nmL]
 have hr:=z1k RoundE.n 6 x.rounds (fun r hr=>by
  have:=hw r hr;unfold RoundE.n;omega)
 unfold InstE.n z1H;omega
def z6e:InstE:=⟨false,[],[z1Q],[3,3,3]⟩
theorem z4m(w:World):
  Calls Tryz.prog 99 #[] w fun e w'=>∃q:InstQ,e=.returned (.agg #[.bool q.has,q.vb,q.vr,q.vd])∧q.e=z6e∧instK.own w' q∧(instK.foot q).Nodup∧(∀k∈instK.foot q,w.heap.size≤k)∧Below w.heap.size w w':=by
 have hB:Below w.heap.size w (w.alloc (.cells #[.bool false,.slice none 0 0,.slice none 0 0,.slice none 0 0] 49)):=by go_grown
 have Rb:=Blk.new w 49 #[.bool false,.slice none 0 0,.slice none 0 0,.slice none 0 0];go_enter Tryz.func99,Tryz.ntmps99
 go_wp2_with fail
 have M:w.heap.size<(w.alloc (.cells #[.bool false,.slice none 0 0,.slice none 0 0,.slice none 0 0] 49)).heap.size:=by simp
 generalize w.alloc (.cells #[.bool false,.slice none 0 0,.slice none 0 0,.slice none 0 0] 49)=W at*;refine(z1M W).mono ?_;rintro e w1 ⟨x1,y1,rfl,o1,g1,s⟩;have h1:=s.size;replace Rb:=Rb.below s;replace hB:=hB.trans (s.mono hB.size);have m1:=o1.lt;clear s
 go_wp2_with fail
 refine(z1M w1).mono ?_;rintro e w2 ⟨x2,y2,rfl,o2,g2,c⟩;have h2:=c.size;replace Rb:=Rb.below c;replace o1:=o1.below c;replace hB:=hB.trans (c.mono hB.size);have m2:=o2.lt;clear c;have r:Below w2.heap.size w2 (w2.alloc (.cells #[.slice x1 3 y1,.slice x2 3 y2] 172)):=by go_grown
 have ho:=(z04 (World.ownsRow_lit (e:=172) (size:=2) w2 #[.slice x1 3 y1,.slice x2 3 y2] 1 (Nat.le_refl _) (by decide) rfl)).1;replace Rb:=Rb.below r;replace o1:=o1.below r;replace o2:=o2.below r;replace hB:=hB.trans (r.mono hB.size);have hA:w2.heap.size<(w2.alloc (.cells #[.slice x1 3 y1,.slice x2 3 y2] 172)).heap.size:=by simp
 have oR:roundK.Own (w2.alloc (.cells #[.slice x1 3 y1,.slice x2 3 y2] 172)) (.slice (some ⟨w2.heap.size,0,none⟩) 1 1) [(⟨.slice x1 3 y1,[3,3,3],.slice x2 3 y2,[3,3,3]⟩:RoundQ)]:=⟨ho,fun p hp=>by simp only[List.mem_singleton]at hp;subst hp;exact⟨o1,o2⟩⟩
 have HD:Hid (∀x∈intK.fp (.slice x1 3 y1) [3,3,3],∀y∈intK.fp (.slice x2 3 y2) [3,3,3],x≠y):=fun x hx y hy e=>by have:=m1 x hx;have:=g2 y hy;omega
 clear r ho
 go_wp2_with fail
 generalize w2.alloc (.cells #[.slice x1 3 y1,.slice x2 3 y2] 172)=W2 at*;generalize N:w2.heap.size=g at*;refine(z1M W2).mono ?_;rintro e w3 ⟨x3,y3,rfl,o3,g3,d⟩;have h3:=d.size;replace Rb:=Rb.below d;replace oR:=oR.below d;replace hB:=hB.trans (d.mono hB.size);have fR:∀k∈roundK.fp (.slice (some ⟨g,0,none⟩) 1 1) [(⟨.slice x1 3 y1,[3,3,3],.slice x2 3 y2,[3,3,3]⟩:RoundQ)],W.heap.size≤k∧k<W2.heap.size:=fun k hk=>by
  simp only[Kind.fp,List.mem_append,List.flatMap_cons,List.flatMap_nil,List.append_nil,blk,Value.ownBlock,Option.toList,List.mem_singleton]at hk;rcases hk with hk|hk
  ·omega
  ·rcases List.mem_append.1 hk with hk|hk
   ·have:=g1 k hk;have:=m1 k hk;omega
   ·have:=g2 k hk;have:=m2 k hk;omega
 have nR:(roundK.fp (.slice (some ⟨g,0,none⟩) 1 1) [(⟨.slice x1 3 y1,[3,3,3],.slice x2 3 y2,[3,3,3]⟩:RoundQ)]).Nodup:=by
  unfold Kind.fp;refine List.nodup_append.2 ⟨z1h _,?_,fun a ha b hb e=>?_⟩
  ·simp only[List.flatMap_cons,List.flatMap_nil,List.append_nil];exact List.nodup_append.2 ⟨z0z _ _,z0z _ _,HD.out⟩
  ·simp only[blk,Value.ownBlock,Option.toList,List.mem_singleton]at ha;subst ha e;simp only[List.flatMap_cons,List.flatMap_nil,List.append_nil]at hb;rcases List.mem_append.1 hb with hb|hb
   ·have:=m1 _ hb;omega
   ·have:=m2 _ hb;omega
 have U:=z0f w3 w.heap.size #[.bool false,.slice none 0 0,.slice (some ⟨g,0,none⟩) 1 1,.slice x3 3 y3];have A:=oR.out U (fun k hk=>by have:=fR k hk;simp only[List.mem_singleton];omega);have z:=o3.out U (fun k hk=>by have:=g3 k hk;simp only[List.mem_singleton];omega);have oT:=(Kind.own_nil (K:=txnK) (w3.setRow w.heap.size #[.bool false,.slice none 0 0,.slice (some ⟨g,0,none⟩) 1 1,.slice x3 3 y3])).1;have Rr:=Rb.row #[.bool false,.slice none 0 0,.slice (some ⟨g,0,none⟩) 1 1,.slice x3 3 y3];have C:=z0c hB (g:=w.heap.size) (Nat.le_refl _) #[.bool false,.slice none 0 0,.slice (some ⟨g,0,none⟩) 1 1,.slice x3 3 y3];have L:(Tryz.prog.info? 49).map (·.size)=some (#[.bool false,.slice none 0 0,.slice (some ⟨g,0,none⟩) 1 1,.slice x3 3 y3]:Array Value).size:=z0l;have HQ:Hid (∃q:InstQ,#[.bool q.has,q.vb,q.vr,q.vd]=(#[.bool false,.slice none 0 0,.slice (some ⟨g,0,none⟩) 1 1,.slice x3 3 y3]:Array Value)∧q.e=z6e∧instK.own (w3.setRow w.heap.size #[.bool false,.slice none 0 0,.slice (some ⟨g,0,none⟩) 1 1,.slice x3 3 y3]) q∧(instK.foot q).Nodup∧(∀k∈instK.foot q,w.heap.size≤k)):=by
  refine⟨⟨false,.slice none 0 0,[],.slice (some ⟨g,0,none⟩) 1 1,[(⟨.slice x1 3 y1,[3,3,3],.slice x2 3 y2,[3,3,3]⟩:RoundQ)],.slice x3 3 y3,[3,3,3]⟩,rfl,rfl,⟨oT,A,z⟩,?_,?_⟩
  ·show(txnK.fp (.slice none 0 0) ([]:List TxnQ)++(roundK.fp (.slice (some ⟨g,0,none⟩) 1 1) [(⟨.slice x1 3 y1,[3,3,3],.slice x2 3 y2,[3,3,3]⟩:RoundQ)]++intK.fp (.slice x3 3 y3) [3,3,3])).Nodup;rw[(Kind.own_nil (K:=txnK) w3).2,List.nil_append];exact List.nodup_append.2 ⟨nR,z0z _ _,fun a ha b hb e=>by have:=fR a ha;have:=g3 b hb;omega⟩
  ·intro k hk;replace hk:k∈txnK.fp (.slice none 0 0) ([]:List TxnQ)++(roundK.fp (.slice (some ⟨g,0,none⟩) 1 1) [(⟨.slice x1 3 y1,[3,3,3],.slice x2 3 y2,[3,3,3]⟩:RoundQ)]++intK.fp (.slice x3 3 y3) [3,3,3]):=hk;rw[(Kind.own_nil (K:=txnK) w3).2,List.nil_append]at hk;rcases List.mem_append.1 hk with hk|hk
   ·have:=fR k hk;omega
   ·have:=g3 k hk;omega
 clear A z oT U fR nR oR o3 o1 o2 g1 g2 g3 m1 m2 HD hB d
 go_wp2_with (first|(refine z0d (by kernel_rfl) 49 _ _ rfl _ #[.bool false,.slice none 0 0,.slice (some ⟨g,0,none⟩) 1 1,.slice x3 3 y3] rfl rfl 49 _ Rb L rfl (by simp[Value.oneCell']) ?_))
 obtain⟨q0,q1,q2,q3⟩:=Rr.cel4;obtain⟨q,D,E,G,I,J⟩:=HQ.out;exact bodyPost_ret (v:=.agg #[.bool false,.slice none 0 0,.slice (some ⟨g,0,none⟩) 1 1,.slice x3 3 y3]) (by simp[results,Tryz.results99,go_sem,q0,q1,q2,q3]) rfl ⟨q,by rw[D],E,G,I,J,C⟩
end Go.Proofs.YtciofogeiohleaaGreatDoor

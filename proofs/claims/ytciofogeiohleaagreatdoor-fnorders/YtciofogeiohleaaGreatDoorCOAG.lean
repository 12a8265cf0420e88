/- Texts joined,with what the laws reach alone. -/
import Derived.Test.YtciofogeiohleaaGreatDoorCOAF
set_option linter.unusedVariables false
set_option linter.unusedSimpArgs false
set_option maxRecDepth 100000
set_option maxHeartbeats 4000000
namespace Go.Proofs.YtciofogeiohleaaGreatDoor
open Go.RowKit Go.BigFrame
theorem z1Y(b o:Nat)(p:InstQ)(G d:Int)(w:World)(hP:InstP w b o p)(aR:b<w.heap.size)(hl:p.n≤1048576)(h0:insF p.e=0):
  Calls Tryz.prog 112 #[.pointer (some ⟨b,o,none⟩),.int .i64 G,.int .i64 d] w fun e w'=>∃q:InstQ,e=.returned (.agg (q0E (frC p.e G d) 0 false false 0 q))∧q.e=frI p.e G d∧instK.own w' q∧(instK.foot q).Nodup∧(∀k∈instK.foot q,w.heap.size≤k)∧Below w.heap.size w w':=by
 obtain⟨aD,aF,aA⟩:=z1t h0;obtain⟨aJ,⟨h1,h4⟩,aS,hF,_⟩:=z2r h0;have V:=fun w h=>z1q p w h hl aD aF aA
 have aE:p.e.rounds.length=p.rounds.length:=List.length_map _;have an:=z3c hP 0 (by omega) hF;have ad:=fun(q:InstQ) (hq:q.e=p.e) (r:Nat) (hr:r<p.e.rounds.length)=>z65 hq aJ r hr
 have HF:=z5g p.e G d;have HA:Hid (inB G 0 2=false→atC p.e G 0=3):=fun hA=>by
  unfold atC;rw[if_pos h0,hA];rfl
 have ap:Hid (inB G 0 2=true→atC p.e G 0=0):=fun hA=>by
  unfold atC;have:inB 0 0 ((p.e.rounds.length:Int)-1)=true:=by unfold inB;rw[decide_eq_true_eq];omega
  rw[if_pos h0,hA,this];rfl
 have ax:Hid (∀ (q:InstQ),q.e=p.e→∀r n v hq,(q.setR r n v hq).e=⟨p.e.has,p.e.batch,z2Z p.e.rounds r n v,p.e.dec⟩):=fun q hq r n v hh=>by rw[z60,hq]
 have HH:Hid (p.e.has=p.has):=(rfl:_=_)
 clear aD aF aA hF h0;generalize frC p.e G d=D at*;generalize frI p.e G d=E at*;generalize atC p.e G 0=C at*;replace HF:Hid _:=HF;have ao:=hP.rd;have aw:=fun(w':World) hb=>instK.rd_below (w':=w') ao hb
 have ay:Hid (p.e.rounds.length=p.rounds.length):=aE;clear aE;generalize aM:p.e=pe at*;clear aM;obtain⟨has,vb,ar,vr,ab,vd,dec⟩:=p;obtain⟨ba,bk,rfl⟩:∃a c,vb=.slice a ar.length c:=ao.1.shape;obtain⟨va,vk,rfl⟩:∃a c,vr=.slice a ab.length c:=ao.2.1.shape;obtain⟨da,dk,rfl⟩:∃a c,vd=.slice a dec.length c:=ao.2.2.shape;dsimp only at V aw an ay HH;have hB:Below w.heap.size w (w.alloc (.cells #[.int .i64 0,.int .i64 0,.bool false,.bool false,.int .i64 0,.bool false,.slice none 0 0,.slice none 0 0,.slice none 0 0] 83)):=by go_grown
 have Rb:=Blk.new w 83 #[.int .i64 0,.int .i64 0,.bool false,.bool false,.int .i64 0,.bool false,.slice none 0 0,.slice none 0 0,.slice none 0 0]
 cases hN:inB G 0 2 with
 |false=>
  have hC:C=3:=HA.out hN;have E1:Hid (D=3∧E=z1L):=by
   obtain⟨h1,h2⟩:=HF.out.1 (by rw[hC];decide);exact⟨h1.trans hC,h2⟩
  clear HF an ad V hC HA ap;go_enter Tryz.func112,Tryz.ntmps112
  go_wp2_with (first|(go_at_call 167;refine(z1a _ _).mono ?_;rintro e w' ⟨rfl,rfl⟩)|(go_at_call 55;refine(z0E _ _ _ _).mono ?_;rintro e w' ⟨rfl,rfl⟩))
  refine(z0s 3 _).mono ?_;rintro e w8 ⟨rfl,J⟩;replace hB:=hB.trans (J.mono hB.size);replace Rb:=Rb.below J;clear J;have Rr:=Rb.row #[.int .i64 3,.int .i64 0,.bool false,.bool false,.int .i64 0,.bool false,.slice none 0 0,.slice none 0 0,.slice none 0 0];have N:=z0c hB (g:=w.heap.size) (by omega) #[.int .i64 3,.int .i64 0,.bool false,.bool false,.int .i64 0,.bool false,.slice none 0 0,.slice none 0 0,.slice none 0 0];have T:(Tryz.prog.info? 83).map (·.size)=some (#[.int .i64 3,.int .i64 0,.bool false,.bool false,.int .i64 0,.bool false,.slice none 0 0,.slice none 0 0,.slice none 0 0]:Array Value).size:=z0v
  go_wp2_with (first|(refine z0d (by kernel_rfl) 83 _ _ rfl _ #[.int .i64 3,.int .i64 0,.bool false,.bool false,.int .i64 0,.bool false,.slice none 0 0,.slice none 0 0,.slice none 0 0] rfl rfl 83 _ Rb T rfl (by simp[Value.oneCell']) ?_))
  obtain⟨q0,q1,q2,q3,q4,q5,q6,q7,q8⟩:=Rr.cel9;exact bodyPost_ret (v:=.agg #[.int .i64 3,.int .i64 0,.bool false,.bool false,.int .i64 0,.bool false,.slice none 0 0,.slice none 0 0,.slice none 0 0]) (by simp[results,Tryz.results112,go_sem,q0,q1,q2,q3,q4,q5,q6,q7,q8]) rfl ⟨z1l,by rw[E1.out.1];rfl,E1.out.2.symm,z0r _,z0C,fun k hk=>by rw[z0x]at hk;simp at hk,N⟩
 |true=>
  obtain⟨aL,n,rfl,hn,hr,f3,f6,f10,f0⟩:=HF.out.2 (ap.out hN);rw[HH.out]at f10 f0;have F3:Hid _:=f3;have F6:Hid _:=f6;have am:Hid _:=f10;have F0:Hid _:=f0;clear aL f3 f6 f10 f0 HF HA ap
  cases hV:inB d 0 1 with
  |false=>
   have E1:Hid (D=3∧E=z1L):=F3.out hV;clear F3 F6 am F0 ad V an;go_enter Tryz.func112,Tryz.ntmps112
   go_wp2_with (first|(go_at_call 167;refine(z1a _ _).mono ?_;rintro e w' ⟨rfl,rfl⟩)|(go_at_call 55;refine(z0E _ _ _ _).mono ?_;rintro e w' ⟨rfl,rfl⟩))
   refine(z0s 3 _).mono ?_;rintro e w8 ⟨rfl,J⟩;replace hB:=hB.trans (J.mono hB.size);replace Rb:=Rb.below J;clear J;have Rr:=Rb.row #[.int .i64 3,.int .i64 0,.bool false,.bool false,.int .i64 0,.bool false,.slice none 0 0,.slice none 0 0,.slice none 0 0];have N:=z0c hB (g:=w.heap.size) (by omega) #[.int .i64 3,.int .i64 0,.bool false,.bool false,.int .i64 0,.bool false,.slice none 0 0,.slice none 0 0,.slice none 0 0];have T:(Tryz.prog.info? 83).map (·.size)=some (#[.int .i64 3,.int .i64 0,.bool false,.bool false,.int .i64 0,.bool false,.slice none 0 0,.slice none 0 0,.slice none 0 0]:Array Value).size:=z0v
   go_wp2_with (first|(refine z0d (by kernel_rfl) 83 _ _ rfl _ #[.int .i64 3,.int .i64 0,.bool false,.bool false,.int .i64 0,.bool false,.slice none 0 0,.slice none 0 0,.slice none 0 0] rfl rfl 83 _ Rb T rfl (by simp[Value.oneCell']) ?_))
   obtain⟨q0,q1,q2,q3,q4,q5,q6,q7,q8⟩:=Rr.cel9;exact bodyPost_ret (v:=.agg #[.int .i64 3,.int .i64 0,.bool false,.bool false,.int .i64 0,.bool false,.slice none 0 0,.slice none 0 0,.slice none 0 0]) (by simp[results,Tryz.results112,go_sem,q0,q1,q2,q3,q4,q5,q6,q7,q8]) rfl ⟨z1l,by rw[E1.out.1];rfl,E1.out.2.symm,z0r _,z0C,fun k hk=>by rw[z0x]at hk;simp at hk,N⟩
  |true=>
   obtain⟨rb,ro,aV,xb,xo,xc,yb,yo,yc,aI,k0,_,kx,_,_,_⟩:=an;simp only[Value.slice.injEq,true_and]at aI;obtain⟨rfl,rfl⟩:=aI;replace kx:=kx n hn;rw[Nat.zero_mul,Nat.add_zero]at k0;replace k0:=z03 k0 hB;replace kx:=z03 kx hB;have aK:=hP.below hB;obtain⟨c0,c1,c2,c3⟩:=aK.box;dsimp only at c0 c1 c2 c3;have aU:(0:Int)<ab.length:=by have:=ay.out;omega
   have aT:(n:Int)<3:=by omega
   generalize aO:repA pe.rounds 0 n=RE at*;clear aO;by_cases aa:RE=3
   case neg=>
    have E1:Hid (D=6∧E=z1L):=F6.out hV aa;have aN:(RE !=3)=true:=by simpa using aa
    clear F3 F6 am F0 aa ad V;go_enter Tryz.func112,Tryz.ntmps112
    go_wp2_with (first|(go_at_call 167;refine(z1a _ _).mono ?_;rintro e w' ⟨rfl,rfl⟩)|(go_at_call 55;refine(z0E _ _ _ _).mono ?_;rintro e w' ⟨rfl,rfl⟩))
    refine(z0s 6 _).mono ?_;rintro e w8 ⟨rfl,J⟩;replace hB:=hB.trans (J.mono hB.size);replace Rb:=Rb.below J;clear J;have Rr:=Rb.row #[.int .i64 6,.int .i64 0,.bool false,.bool false,.int .i64 0,.bool false,.slice none 0 0,.slice none 0 0,.slice none 0 0];have N:=z0c hB (g:=w.heap.size) (by omega) #[.int .i64 6,.int .i64 0,.bool false,.bool false,.int .i64 0,.bool false,.slice none 0 0,.slice none 0 0,.slice none 0 0];have T:(Tryz.prog.info? 83).map (·.size)=some (#[.int .i64 6,.int .i64 0,.bool false,.bool false,.int .i64 0,.bool false,.slice none 0 0,.slice none 0 0,.slice none 0 0]:Array Value).size:=z0v
    go_wp2_with (first|(refine z0d (by kernel_rfl) 83 _ _ rfl _ #[.int .i64 6,.int .i64 0,.bool false,.bool false,.int .i64 0,.bool false,.slice none 0 0,.slice none 0 0,.slice none 0 0] rfl rfl 83 _ Rb T rfl (by simp[Value.oneCell']) ?_))
    obtain⟨q0,q1,q2,q3,q4,q5,q6,q7,q8⟩:=Rr.cel9;exact bodyPost_ret (v:=.agg #[.int .i64 6,.int .i64 0,.bool false,.bool false,.int .i64 0,.bool false,.slice none 0 0,.slice none 0 0,.slice none 0 0]) (by simp[results,Tryz.results112,go_sem,q0,q1,q2,q3,q4,q5,q6,q7,q8]) rfl ⟨z1l,by rw[E1.out.1];rfl,E1.out.2.symm,z0r _,z0C,fun k hk=>by rw[z0x]at hk;simp at hk,N⟩
   case pos=>
    have F1:Hid ((d=1→has=false→D=10∧E=z1L)∧(¬(d=1∧has=false)→D=0∧E=⟨has,pe.batch,z2Z pe.rounds 0 n d,pe.dec⟩)):=⟨am.out hV aa,F0.out hV aa⟩
    rw[←HH.out]at F1;have aN:(RE !=3)=false:=by rw[aa];rfl
    clear F3 F6 am F0 aa;by_cases O:d=1∧has=false
    case pos=>
     have E1:Hid (D=10∧E=z1L):=F1.out.1 O.1 (by rw[HH.out];exact O.2);obtain⟨rfl,rfl⟩:=O;clear F1 ad V;go_enter Tryz.func112,Tryz.ntmps112
     go_wp2_with (first|(go_at_call 167;refine(z1a _ _).mono ?_;rintro e w' ⟨rfl,rfl⟩)|(go_at_call 55;refine(z0E _ _ _ _).mono ?_;rintro e w' ⟨rfl,rfl⟩))
     refine(z0s 10 _).mono ?_;rintro e w8 ⟨rfl,J⟩;replace hB:=hB.trans (J.mono hB.size);replace Rb:=Rb.below J;clear J;have Rr:=Rb.row #[.int .i64 10,.int .i64 0,.bool false,.bool false,.int .i64 0,.bool false,.slice none 0 0,.slice none 0 0,.slice none 0 0];have N:=z0c hB (g:=w.heap.size) (by omega) #[.int .i64 10,.int .i64 0,.bool false,.bool false,.int .i64 0,.bool false,.slice none 0 0,.slice none 0 0,.slice none 0 0];have T:(Tryz.prog.info? 83).map (·.size)=some (#[.int .i64 10,.int .i64 0,.bool false,.bool false,.int .i64 0,.bool false,.slice none 0 0,.slice none 0 0,.slice none 0 0]:Array Value).size:=z0v
     go_wp2_with (first|(refine z0d (by kernel_rfl) 83 _ _ rfl _ #[.int .i64 10,.int .i64 0,.bool false,.bool false,.int .i64 0,.bool false,.slice none 0 0,.slice none 0 0,.slice none 0 0] rfl rfl 83 _ Rb T rfl (by simp[Value.oneCell']) ?_))
     obtain⟨q0,q1,q2,q3,q4,q5,q6,q7,q8⟩:=Rr.cel9;exact bodyPost_ret (v:=.agg #[.int .i64 10,.int .i64 0,.bool false,.bool false,.int .i64 0,.bool false,.slice none 0 0,.slice none 0 0,.slice none 0 0]) (by simp[results,Tryz.results112,go_sem,q0,q1,q2,q3,q4,q5,q6,q7,q8]) rfl ⟨z1l,by rw[E1.out.1];rfl,E1.out.2.symm,z0r _,z0C,fun k hk=>by rw[z0x]at hk;simp at hk,N⟩
    case neg=>
     have E1:Hid (D=0∧E=⟨pe.has,pe.batch,z2Z pe.rounds 0 n d,pe.dec⟩):=F1.out.2 (by rw[HH.out];exact O);clear F1;by_cases ak:d=1
     ·have hh:has=true:=by cases has with|true=>rfl|false=>exact absurd ⟨ak,rfl⟩ O
      subst hh;have aH:(d==1)=true:=by rw[ak];rfl
      clear O ak;go_enter Tryz.func112,Tryz.ntmps112;have ag:=hP.below hB;obtain⟨d0,d1,d2,d3⟩:=ag.box;dsimp only at d0 d1 d2 d3
      go_wp2_with (first|(go_at_call 167;refine(z1a _ _).mono ?_;rintro e w' ⟨rfl,rfl⟩)|(go_at_call 55;refine(z0E _ _ _ _).mono ?_;rintro e w' ⟨rfl,rfl⟩))
      clear c0 c1 c2 c3 d0 d1 d2 d3 kx k0;refine(V _ (aw _ hB)).mono ?_;rintro e w3 ⟨q,rfl,eq,oq,nq,gq,Z⟩;have hW:=Rb.lt;replace Rb:=Rb.below Z;replace hB:=hB.trans (Z.mono hB.size);obtain⟨A,aj,_⟩:=ad q eq 0 hr;have ae:=ax.out q eq 0 n d A;have M:=instK.own_lt oq;obtain⟨qh,qb,x,qr,s,qd,y⟩:=q;obtain⟨s1,t1,rfl⟩:∃a c,qb=.slice a x.length c:=oq.1.shape;obtain⟨s2,t2,rfl⟩:∃a c,qr=.slice a s.length c:=oq.2.1.shape;obtain⟨s3,t3,rfl⟩:∃a c,qd=.slice a y.length c:=oq.2.2.shape;obtain⟨gr,rfl⟩:=oq.2.1.blkOf (by exact Nat.lt_of_le_of_lt (Nat.zero_le _) A);replace A:0<s.length:=A;have aG:(0:Int)<s.length:=by omega
      obtain⟨g5,W,al,ai,kc,kf,L,I⟩:=z2N oq nq 0 n A (by show n<(s[0]).rep.length;have:(s[0]).rep.length=3:=aj;omega) d;have av:(s[0]).rep.length=3:=aj;rw[show(InstQ.rounds (⟨qh,.slice s1 x.length t1,x,.slice (some ⟨gr,0,none⟩) s.length t2,s,.slice s3 y.length t3,y⟩:InstQ))[0]=s[0]from rfl,av]at al;have ah:=oq.2.1.cell 0 A 0 (.slice (some ⟨g5,0,none⟩) 3 W) (by show([(s[0]).vr,(s[0]).vp]:List Value)[0]?=_;rw[←al];rfl);have X:w3.cell? ⟨gr,0,none⟩=some (.slice (some ⟨g5,0,none⟩) 3 W):=ah.1;have aB:w.heap.size+1≤g5∧g5<w3.heap.size:=⟨by have:=gq g5 ai;omega,M g5 ai⟩
      have U:Below (w3.setCell ⟨g5,n,none⟩ (iv d)).heap.size (w3.setCell ⟨g5,n,none⟩ (iv d)) ((w3.setCell ⟨g5,n,none⟩ (iv d)).alloc (.cells #[.bool qh,.slice s1 x.length t1,.slice (some ⟨gr,0,none⟩) s.length t2,.slice s3 y.length t3] 49)):=by go_grown
      have R3:=(Rb.other (b':=g5) (by omega) n (iv d)).below U;have au:Below w.heap.size w ((w3.setCell ⟨g5,n,none⟩ (iv d)).alloc (.cells #[.bool qh,.slice s1 x.length t1,.slice (some ⟨gr,0,none⟩) s.length t2,.slice s3 y.length t3] 49)):=by
       have h1:Below w.heap.size w (w3.setCell ⟨g5,n,none⟩ (iv d)):=hB.setCell (p:=⟨g5,n,none⟩) (by show w.heap.size≤g5;omega) _;exact h1.trans (U.mono h1.size)
      replace L:=instK.own_out (F:=[]) L (Out.of_below U) (fun _ _=>by simp);have L5:∀k∈instK.foot (InstQ.setR (⟨qh,.slice s1 x.length t1,x,.slice (some ⟨gr,0,none⟩) s.length t2,s,.slice s3 y.length t3,y⟩:InstQ) 0 n d A),w.heap.size<k:=fun k hk=>by rw[I]at hk;have:=gq k hk;omega
      have N5:(instK.foot (InstQ.setR (⟨qh,.slice s1 x.length t1,x,.slice (some ⟨gr,0,none⟩) s.length t2,s,.slice s3 y.length t3,y⟩:InstQ) 0 n d A)).Nodup:=by rw[I];exact nq
      have Y:∀cs,instK.own (((w3.setCell ⟨g5,n,none⟩ (iv d)).alloc (.cells #[.bool qh,.slice s1 x.length t1,.slice (some ⟨gr,0,none⟩) s.length t2,.slice s3 y.length t3] 49)).setRow w.heap.size cs) (InstQ.setR (⟨qh,.slice s1 x.length t1,x,.slice (some ⟨gr,0,none⟩) s.length t2,s,.slice s3 y.length t3,y⟩:InstQ) 0 n d A):=fun cs=>instK.own_out L (z0f _ w.heap.size cs) (fun k hk=>by have:=L5 k hk;simp only[List.mem_singleton];omega)
      have HQ:Hid ((InstQ.setR (⟨qh,.slice s1 x.length t1,x,.slice (some ⟨gr,0,none⟩) s.length t2,s,.slice s3 y.length t3,y⟩:InstQ) 0 n d A).e=E∧(instK.foot (InstQ.setR (⟨qh,.slice s1 x.length t1,x,.slice (some ⟨gr,0,none⟩) s.length t2,s,.slice s3 y.length t3,y⟩:InstQ) 0 n d A)).Nodup∧(∀k∈instK.foot (InstQ.setR (⟨qh,.slice s1 x.length t1,x,.slice (some ⟨gr,0,none⟩) s.length t2,s,.slice s3 y.length t3,y⟩:InstQ) 0 n d A),w.heap.size≤k)∧∀cs,instK.own (((w3.setCell ⟨g5,n,none⟩ (iv d)).alloc (.cells #[.bool qh,.slice s1 x.length t1,.slice (some ⟨gr,0,none⟩) s.length t2,.slice s3 y.length t3] 49)).setRow w.heap.size cs) (InstQ.setR (⟨qh,.slice s1 x.length t1,x,.slice (some ⟨gr,0,none⟩) s.length t2,s,.slice s3 y.length t3,y⟩:InstQ) 0 n d A)):=⟨by rw[E1.out.2];exact ae,N5,fun k hk=>by have:=L5 k hk;omega,Y⟩
      have aq:Hid (D=0):=E1.out.1;obtain⟨aQ,aP⟩:∃z,w3.cell? ⟨g5,n,none⟩=some (iv z):=⟨_,kc⟩
      have af:Below w3.heap.size w3 (w3.alloc (.cells #[.bool qh,.slice s1 x.length t1,.slice (some ⟨gr,0,none⟩) s.length t2,.slice s3 y.length t3] 49)):=by go_grown
      have az:=z03 X af;have aC:gr<w3.heap.size:=World.block_lt_of_cell? w3 ⟨gr,0,none⟩ X;clear kc af;clear Rb hB L I L5 N5 Y ae E1 oq nq gq eq Z V M ah U;have Rr:=R3.row #[.int .i64 0,.int .i64 0,.bool false,.bool false,.int .i64 0,.bool qh,.slice s1 x.length t1,.slice (some ⟨gr,0,none⟩) s.length t2,.slice s3 y.length t3];have N:=z0c au (g:=w.heap.size) (Nat.le_refl _) #[.int .i64 0,.int .i64 0,.bool false,.bool false,.int .i64 0,.bool qh,.slice s1 x.length t1,.slice (some ⟨gr,0,none⟩) s.length t2,.slice s3 y.length t3];have T:(Tryz.prog.info? 83).map (·.size)=some (#[.int .i64 0,.int .i64 0,.bool false,.bool false,.int .i64 0,.bool qh,.slice s1 x.length t1,.slice (some ⟨gr,0,none⟩) s.length t2,.slice s3 y.length t3]:Array Value).size:=z0v
      go_wp2_with (first|(refine z0d (by kernel_rfl) 83 _ _ rfl _ #[.int .i64 0,.int .i64 0,.bool false,.bool false,.int .i64 0,.bool qh,.slice s1 x.length t1,.slice (some ⟨gr,0,none⟩) s.length t2,.slice s3 y.length t3] rfl rfl 83 _ R3 T rfl (by simp[Value.oneCell']) ?_))
      obtain⟨q0,q1,q2,q3,q4,q5,q6,q7,q8⟩:=Rr.cel9;exact bodyPost_ret (v:=.agg #[.int .i64 0,.int .i64 0,.bool false,.bool false,.int .i64 0,.bool qh,.slice s1 x.length t1,.slice (some ⟨gr,0,none⟩) s.length t2,.slice s3 y.length t3]) (by simp[results,Tryz.results112,go_sem,q0,q1,q2,q3,q4,q5,q6,q7,q8]) rfl ⟨InstQ.setR (⟨qh,.slice s1 x.length t1,x,.slice (some ⟨gr,0,none⟩) s.length t2,s,.slice s3 y.length t3,y⟩:InstQ) 0 n d A,by rw[aq.out];rfl,HQ.out.1,HQ.out.2.2.2 _,HQ.out.2.1,HQ.out.2.2.1,N⟩
     ·have aH:(d==1)=false:=by simpa using ak
      clear O ak;go_enter Tryz.func112,Tryz.ntmps112;have ag:=hP.below hB;obtain⟨d0,d1,d2,d3⟩:=ag.box;dsimp only at d0 d1 d2 d3
      go_wp2_with (first|(go_at_call 167;refine(z1a _ _).mono ?_;rintro e w' ⟨rfl,rfl⟩)|(go_at_call 55;refine(z0E _ _ _ _).mono ?_;rintro e w' ⟨rfl,rfl⟩))
      clear c0 c1 c2 c3 d0 d1 d2 d3 kx k0;refine(V _ (aw _ hB)).mono ?_;rintro e w3 ⟨q,rfl,eq,oq,nq,gq,Z⟩;have hW:=Rb.lt;replace Rb:=Rb.below Z;replace hB:=hB.trans (Z.mono hB.size);obtain⟨A,aj,_⟩:=ad q eq 0 hr;have ae:=ax.out q eq 0 n d A;have M:=instK.own_lt oq;obtain⟨qh,qb,x,qr,s,qd,y⟩:=q;obtain⟨s1,t1,rfl⟩:∃a c,qb=.slice a x.length c:=oq.1.shape;obtain⟨s2,t2,rfl⟩:∃a c,qr=.slice a s.length c:=oq.2.1.shape;obtain⟨s3,t3,rfl⟩:∃a c,qd=.slice a y.length c:=oq.2.2.shape;obtain⟨gr,rfl⟩:=oq.2.1.blkOf (by exact Nat.lt_of_le_of_lt (Nat.zero_le _) A);replace A:0<s.length:=A;have aG:(0:Int)<s.length:=by omega
      obtain⟨g5,W,al,ai,kc,kf,L,I⟩:=z2N oq nq 0 n A (by show n<(s[0]).rep.length;have:(s[0]).rep.length=3:=aj;omega) d;have av:(s[0]).rep.length=3:=aj;rw[show(InstQ.rounds (⟨qh,.slice s1 x.length t1,x,.slice (some ⟨gr,0,none⟩) s.length t2,s,.slice s3 y.length t3,y⟩:InstQ))[0]=s[0]from rfl,av]at al;have ah:=oq.2.1.cell 0 A 0 (.slice (some ⟨g5,0,none⟩) 3 W) (by show([(s[0]).vr,(s[0]).vp]:List Value)[0]?=_;rw[←al];rfl);have X:w3.cell? ⟨gr,0,none⟩=some (.slice (some ⟨g5,0,none⟩) 3 W):=ah.1;have aB:w.heap.size+1≤g5∧g5<w3.heap.size:=⟨by have:=gq g5 ai;omega,M g5 ai⟩
      have U:Below (w3.setCell ⟨g5,n,none⟩ (iv d)).heap.size (w3.setCell ⟨g5,n,none⟩ (iv d)) ((w3.setCell ⟨g5,n,none⟩ (iv d)).alloc (.cells #[.bool qh,.slice s1 x.length t1,.slice (some ⟨gr,0,none⟩) s.length t2,.slice s3 y.length t3] 49)):=by go_grown
      have R3:=(Rb.other (b':=g5) (by omega) n (iv d)).below U;have au:Below w.heap.size w ((w3.setCell ⟨g5,n,none⟩ (iv d)).alloc (.cells #[.bool qh,.slice s1 x.length t1,.slice (some ⟨gr,0,none⟩) s.length t2,.slice s3 y.length t3] 49)):=by
       have h1:Below w.heap.size w (w3.setCell ⟨g5,n,none⟩ (iv d)):=hB.setCell (p:=⟨g5,n,none⟩) (by show w.heap.size≤g5;omega) _;exact h1.trans (U.mono h1.size)
      replace L:=instK.own_out (F:=[]) L (Out.of_below U) (fun _ _=>by simp);have L5:∀k∈instK.foot (InstQ.setR (⟨qh,.slice s1 x.length t1,x,.slice (some ⟨gr,0,none⟩) s.length t2,s,.slice s3 y.length t3,y⟩:InstQ) 0 n d A),w.heap.size<k:=fun k hk=>by rw[I]at hk;have:=gq k hk;omega
      have N5:(instK.foot (InstQ.setR (⟨qh,.slice s1 x.length t1,x,.slice (some ⟨gr,0,none⟩) s.length t2,s,.slice s3 y.length t3,y⟩:InstQ) 0 n d A)).Nodup:=by rw[I];exact nq
      have Y:∀cs,instK.own (((w3.setCell ⟨g5,n,none⟩ (iv d)).alloc (.cells #[.bool qh,.slice s1 x.length t1,.slice (some ⟨gr,0,none⟩) s.length t2,.slice s3 y.length t3] 49)).setRow w.heap.size cs) (InstQ.setR (⟨qh,.slice s1 x.length t1,x,.slice (some ⟨gr,0,none⟩) s.length t2,s,.slice s3 y.length t3,y⟩:InstQ) 0 n d A):=fun cs=>instK.own_out L (z0f _ w.heap.size cs) (fun k hk=>by have:=L5 k hk;simp only[List.mem_singleton];omega)
      have HQ:Hid ((InstQ.setR (⟨qh,.slice s1 x.length t1,x,.slice (some ⟨gr,0,none⟩) s.length t2,s,.slice s3 y.length t3,y⟩:InstQ) 0 n d A).e=E∧(instK.foot (InstQ.setR (⟨qh,.slice s1 x.length t1,x,.slice (some ⟨gr,0,none⟩) s.length t2,s,.slice s3 y.length t3,y⟩:InstQ) 0 n d A)).Nodup∧(∀k∈instK.foot (InstQ.setR (⟨qh,.slice s1 x.length t1,x,.slice (some ⟨gr,0,none⟩) s.length t2,s,.slice s3 y.length t3,y⟩:InstQ) 0 n d A),w.heap.size≤k)∧∀cs,instK.own (((w3.setCell ⟨g5,n,none⟩ (iv d)).alloc (.cells #[.bool qh,.slice s1 x.length t1,.slice (some ⟨gr,0,none⟩) s.length t2,.slice s3 y.length t3] 49)).setRow w.heap.size cs) (InstQ.setR (⟨qh,.slice s1 x.length t1,x,.slice (some ⟨gr,0,none⟩) s.length t2,s,.slice s3 y.length t3,y⟩:InstQ) 0 n d A)):=⟨by rw[E1.out.2];exact ae,N5,fun k hk=>by have:=L5 k hk;omega,Y⟩
      have aq:Hid (D=0):=E1.out.1;obtain⟨aQ,aP⟩:∃z,w3.cell? ⟨g5,n,none⟩=some (iv z):=⟨_,kc⟩
      have af:Below w3.heap.size w3 (w3.alloc (.cells #[.bool qh,.slice s1 x.length t1,.slice (some ⟨gr,0,none⟩) s.length t2,.slice s3 y.length t3] 49)):=by go_grown
      have az:=z03 X af;have aC:gr<w3.heap.size:=World.block_lt_of_cell? w3 ⟨gr,0,none⟩ X;clear kc af;clear Rb hB L I L5 N5 Y ae E1 oq nq gq eq Z V M ah U;have Rr:=R3.row #[.int .i64 0,.int .i64 0,.bool false,.bool false,.int .i64 0,.bool qh,.slice s1 x.length t1,.slice (some ⟨gr,0,none⟩) s.length t2,.slice s3 y.length t3];have N:=z0c au (g:=w.heap.size) (Nat.le_refl _) #[.int .i64 0,.int .i64 0,.bool false,.bool false,.int .i64 0,.bool qh,.slice s1 x.length t1,.slice (some ⟨gr,0,none⟩) s.length t2,.slice s3 y.length t3];have T:(Tryz.prog.info? 83).map (·.size)=some (#[.int .i64 0,.int .i64 0,.bool false,.bool false,.int .i64 0,.bool qh,.slice s1 x.length t1,.slice (some ⟨gr,0,none⟩) s.length t2,.slice s3 y.length t3]:Array Value).size:=z0v
      go_wp2_with (first|(refine z0d (by kernel_rfl) 83 _ _ rfl _ #[.int .i64 0,.int .i64 0,.bool false,.bool false,.int .i64 0,.bool qh,.slice s1 x.length t1,.slice (some ⟨gr,0,none⟩) s.length t2,.slice s3 y.length t3] rfl rfl 83 _ R3 T rfl (by simp[Value.oneCell']) ?_))
      obtain⟨q0,q1,q2,q3,q4,q5,q6,q7,q8⟩:=Rr.cel9;exact bodyPost_ret (v:=.agg #[.int .i64 0,.int .i64 0,.bool false,.bool false,.int .i64 0,.bool qh,.slice s1 x.length t1,.slice (some ⟨gr,0,none⟩) s.length t2,.slice s3 y.length t3]) (by simp[results,Tryz.results112,go_sem,q0,q1,q2,q3,q4,q5,q6,q7,q8]) rfl ⟨InstQ.setR (⟨qh,.slice s1 x.length t1,x,.slice (some ⟨gr,0,none⟩) s.length t2,s,.slice s3 y.length t3,y⟩:InstQ) 0 n d A,by rw[aq.out];rfl,HQ.out.1,HQ.out.2.2.2 _,HQ.out.2.1,HQ.out.2.2.1,N⟩
theorem z1M(w:World):
  Calls Tryz.prog 156 #[] w fun e w'=>∃a c,e=.returned (.slice a 3 c)∧intK.Own w' (.slice a 3 c) [3,3,3]∧(∀k∈intK.fp (.slice a 3 c) [3,3,3],w.heap.size≤k)∧Below w.heap.size w w':=by
 have hB:Below w.heap.size w (w.alloc (.cells #[.int .i64 3,.int .i64 3,.int .i64 3] 2)):=by go_grown
 have ho:=World.ownsRow_lit (e:=2) (size:=1) w #[.int .i64 3,.int .i64 3,.int .i64 3] 3 (Nat.le_refl _) (by decide) rfl;obtain⟨O,G⟩:=z3P (zs:=[3,3,3]) (n:=3) rfl ho;have HO:Hid (_∧_):=And.intro O G;clear ho O G;go_enter Tryz.func156,Tryz.ntmps156
 go_wp2
 go_ret;exact⟨_,_,rfl,HO.out.1,HO.out.2,hB⟩
def rpC(rs:List RoundE)(nx n:Nat):Int:=if nx<4∧nx<rs.length∧repA rs nx n≠3 then 6 else 0
def rpI(rs:List RoundE)(nx n:Nat)(v:Int):List RoundE:=if nx<4∧¬(nx<rs.length∧repA rs nx n≠3)then z2Z (z4l rs nx) nx n v else rs
theorem q0c(ks:List RoundQ)(r n:Nat)(hr:r<ks.length)(hn:n<(ks[r]).rep.length):repA (ks.map RoundQ.e) r n=(ks[r]).rep[n]:=by
 unfold repA;rw[z0X ks r hr];show(ks[r]).rep.getD n 0=_;simp[List.getD,hn]
theorem z1b(g:Nat)(q:InstQ)(n nx:Nat)(v:Int)(w:World)(hG:Blk w g 49 #[.bool q.has,q.vb,q.vr,q.vd])(oq:instK.own w q)(nq:(instK.foot q).Nodup)(hg:g∉instK.foot q)(bb:Wel q.e.rounds)(h4:q.rounds.length≤4)(h0:0<q.rounds.length)(bj:nx≤q.rounds.length)(hn:n<3):
  Calls Tryz.prog 174 #[.pointer (some ⟨g,0,none⟩),.int .i64 (n:Int),.int .i64 (nx:Int),.int .i64 v] w fun e w'=>∃q':InstQ,e=.returned (.int .i64 (rpC q.e.rounds nx n))∧q'.e=⟨q.e.has,q.e.batch,rpI q.e.rounds nx n v,q.e.dec⟩∧Blk w' g 49 #[.bool q'.has,q'.vb,q'.vr,q'.vd]∧instK.own w' q'∧(instK.foot q').Nodup∧(∀k∈instK.foot q',k∈instK.foot q∨w.heap.size≤k)∧Out (g::instK.foot q) w w':=by
 have a7:q.e.rounds.length=q.rounds.length:=List.length_map _;have bf:=hG.lt;by_cases M:nx<4
 case neg=>
  have e1:rpC q.e.rounds nx n=0:=if_neg (fun h=>M h.1);have e2:rpI q.e.rounds nx n v=q.e.rounds:=if_neg (fun h=>M h.1);rw[e1,e2];have bc:(4:Int)≤nx:=by omega
  go_enter Tryz.func174,Tryz.ntmps174
  go_wp2
  go_ret;exact⟨q,rfl,rfl,hG,oq,nq,fun k hk=>Or.inl hk,Out.refl _ _⟩
 case pos=>
  have bc:(nx:Int)<4:=by omega
  by_cases z:nx<q.rounds.length
  case pos=>
   obtain⟨ad,_⟩:=z1o bb nx (by omega);have A:q.e.rounds.getD nx rnd0=RoundQ.e q.rounds[nx]:=z0X q.rounds nx z;rw[A]at ad;replace ad:(q.rounds[nx]).rep.length=3:=ad;have a6:repA q.e.rounds nx n=(q.rounds[nx]).rep[n]:=q0c q.rounds nx n z (by omega);obtain⟨g5,C,L,O,kc,kf,E,s⟩:=z2N oq nq nx n z (by omega) v;rw[ad]at L;rw[←a6]at kc;have aD:g≠g5:=fun e=>hg (e▸O)
   have aH:=hG.other (b':=g5) aD n (iv v);have aJ:Out (g::instK.foot q) w (w.setCell ⟨g5,n,none⟩ (iv v)):=(Out.refl _ w).set (List.mem_cons_of_mem _ O);have aP:=z60 q nx n v z;have HC:Hid ((repA q.e.rounds nx n≠3→rpC q.e.rounds nx n=6∧rpI q.e.rounds nx n v=q.e.rounds)∧(repA q.e.rounds nx n=3→rpC q.e.rounds nx n=0∧rpI q.e.rounds nx n v=z2Z q.e.rounds nx n v)):=by
    refine⟨fun h3=>⟨if_pos ⟨M,by omega,h3⟩,if_neg (fun h=>h.2 ⟨by omega,h3⟩)⟩,fun h3=>⟨if_neg (fun h=>h.2.2 h3),?_⟩⟩;unfold rpI;rw[if_pos ⟨M,fun h=>h.2 h3⟩];unfold z4l;rw[if_neg (by omega)]
   have HR:Hid (∀w',w'=w.setCell ⟨g5,n,none⟩ (iv v)→Blk w' g 49 #[.bool q.has,q.vb,q.vr,q.vd]∧instK.own w' (q.setR nx n v z)∧Out (g::instK.foot q) w w'):=fun w' W=>by subst W;exact⟨aH,E,aJ⟩
   have HQ:Hid (instK.own w q∧(q.setR nx n v z).e=⟨q.e.has,q.e.batch,z2Z q.e.rounds nx n v,q.e.dec⟩∧(instK.foot (q.setR nx n v z)).Nodup∧∀k∈instK.foot (q.setR nx n v z),k∈instK.foot q):=⟨oq,aP,by rw[s];exact nq,fun k hk=>by rw[s]at hk;exact hk⟩
   obtain⟨va,vk,aE⟩:∃a c,q.vr=.slice a q.rounds.length c:=oq.2.1.shape;have oR:=oq.2.1;rw[aE]at oR;obtain⟨gr,rfl⟩:=oR.blkOf h0;have aN:=(oR.cell nx z 0 (.slice (some ⟨g5,0,none⟩) 3 C) (by show([(q.rounds[nx]).vr,(q.rounds[nx]).vp]:List Value)[0]?=_;rw[←L];rfl)).1;have aO:w.cell? ⟨gr,nx*2,none⟩=some (.slice (some ⟨g5,0,none⟩) 3 C):=aN;have z2:w.cell? ⟨g,2,none⟩=some (.slice (some ⟨gr,0,none⟩) q.rounds.length vk):=by rw[←aE];exact hG.cell 2 _ rfl
   have aZ:(nx:Int)<q.rounds.length:=by omega
   have aj:((nx:Int)==(q.rounds.length:Int))=false:=by simp;omega
   have bh:(n:Int)<3:=by omega
   clear aN oR aE s E aJ aH aP a6 L A;generalize repA q.e.rounds nx n=RE at*;by_cases J:RE=3
   case neg=>
    have a2:(RE !=3)=true:=by simpa using J
    obtain⟨e1,e2⟩:=HC.out.1 J;rw[e1,e2];clear HC e1 e2 J;go_enter Tryz.func174,Tryz.ntmps174
    go_wp2
    go_ret;exact⟨q,rfl,rfl,hG,HQ.out.1,nq,fun k hk=>Or.inl hk,Out.refl _ _⟩
   case pos=>
    have a2:(RE !=3)=false:=by rw[J];rfl
    obtain⟨e1,e2⟩:=HC.out.2 J;rw[e1,e2];clear HC e1 e2 J;go_enter Tryz.func174,Tryz.ntmps174
    go_wp2
    go_ret;obtain⟨k1,k2,k3⟩:=HR.out _ rfl;exact⟨q.setR nx n v z,rfl,HQ.out.2.1,k1,k2,HQ.out.2.2.1,fun k hk=>Or.inl (HQ.out.2.2.2 k hk),k3⟩
  case neg=>
   have ae:nx=q.rounds.length:=by omega
   have e1:rpC q.e.rounds nx n=0:=if_neg (fun h=>by omega);have e2:rpI q.e.rounds nx n v=z2Z (z4l q.e.rounds nx) nx n v:=if_pos ⟨M,fun h=>by omega⟩;have e3:z4l q.e.rounds nx=q.e.rounds++[z1Q]:=if_pos (by omega);rw[e1,e2,e3];have ao:Hid (∀ (ks:List RoundQ) (vr:Value) (hk:nx<ks.length),ks.map RoundQ.e=q.e.rounds++[z1Q]→(InstQ.setR ⟨q.has,q.vb,q.batch,vr,ks,q.vd,q.dec⟩ nx n v hk).e=⟨q.e.has,q.e.batch,z2Z (q.e.rounds++[z1Q]) nx n v,q.e.dec⟩):=fun ks vr hk he=>by
    rw[z60];show InstE.mk q.has (q.batch.map TxnQ.e) (z2Z (ks.map RoundQ.e) nx n v) q.dec=_;rw[he];rfl
   have aG:Hid (q.rounds.map RoundQ.e=q.e.rounds):=(rfl:_=_)
   have aj:((nx:Int)==(q.rounds.length:Int))=true:=by rw[ae];simp
   clear e1 e2 e3 M z;obtain⟨i0,hi,bl,bm,bn⟩:=info_parts z2K;generalize q.e=pe at*;obtain⟨has,vb,d,vr,qs,vd,dec⟩:=q;obtain⟨ba,bk,rfl⟩:∃a c,vb=.slice a d.length c:=oq.1.shape;obtain⟨sa,sc,rfl⟩:∃a c,vr=.slice a qs.length c:=oq.2.1.shape;obtain⟨da,dk,rfl⟩:∃a c,vd=.slice a dec.length c:=oq.2.2.shape;dsimp only at hG ao aG aj h4 h0 ae a7;have aF:Hid (nx=qs.length):=ae;clear ae a7 bj;obtain⟨aV,ah,aa⟩:=List.nodup_append.1 nq;obtain⟨aW,ai,aw⟩:=List.nodup_append.1 ah;obtain⟨o1,hO,o3⟩:=oq;dsimp only at o1 hO o3;have aB:g∉txnK.fp (.slice ba d.length bk) d:=fun h=>hg (List.mem_append_left _ h)
   have aA:g∉roundK.fp (.slice sa qs.length sc) qs:=fun h=>hg (List.mem_append_right _ (List.mem_append_left _ h))
   have ay:g∉intK.fp (.slice da dec.length dk) dec:=fun h=>hg (List.mem_append_right _ (List.mem_append_right _ h))
   have ap:g∉blk (.slice sa qs.length sc):=fun hx=>aA (by simp only[Kind.fp,List.mem_append];exact Or.inl hx)
   have HF:Hid (∀x∈roundK.fp (.slice sa qs.length sc) qs,x<w.heap.size):=hO.lt;have z2:w.cell? ⟨g,2,none⟩=some (.slice sa qs.length sc):=hG.cell 2 _ rfl;have m0:=z0g (F:=blk (.slice sa qs.length sc)) z2 ap;have bi:Nonempty (LatO (blk (.slice sa qs.length sc)) w):=⟨⟨w,Out.refl _ _⟩⟩
   have hW:Below w.heap.size w w.drew:=(Below.refl _ _).drew;have I:∀w',Below w.heap.size w w'→∃u:LatO (blk (.slice sa qs.length sc)) w,w'=u.val:=fun w' W=>⟨⟨w',Out.of_below W⟩,rfl⟩
   have bh:(n:Int)<3:=by omega
   go_enter Tryz.func174,Tryz.ntmps174
   go_wp2_with fail
   clear z2;refine z4i (S:=fun w'=>∃u:LatO (blk (.slice sa qs.length sc)) w,w'=u.val) (R:=fun _ _=>False) 12 (by kernel_rfl) (fun _ _ _ _ h=>h.elim) ?_;refine sgX [(0,5)] 8 (by kernel_rfl) (I _ hW) ?_;simp only[pkE];repeat go_big_quiet_step (fail)
   refine wpQuiet_nil ?_;refine clX 5 (some 23) 156 #[] 7 (by kernel_rfl) rfl ?_;refine(z1M _).mono ?_;rintro e w8 ⟨x1,y1,rfl,oa,ga,aM⟩;have LA:∀x∈intK.fp (.slice x1 3 y1) [3,3,3],w.heap.size≤x:=fun x hx=>by have:=ga x hx;have:=hW.size;omega
   have MA:=oa.lt;replace hW:=hW.trans (aM.mono hW.size);clear aM ga;refine Or.inl ⟨_,rfl,I _ hW,?_⟩;simp only[Act.put,pgE,pjE];refine clX 6 (some 24) 156 #[] 6 (by kernel_rfl) rfl ?_;refine(z1M _).mono ?_;rintro e w9 ⟨x2,y2,rfl,ob,gb,au⟩;have LB:∀x∈intK.fp (.slice x2 3 y2) [3,3,3],w.heap.size≤x:=fun x hx=>by have:=gb x hx;have:=hW.size;omega
   have ag:∀x∈intK.fp (.slice x1 3 y1) [3,3,3],∀y∈intK.fp (.slice x2 3 y2) [3,3,3],x≠y:=fun x hx y hy e=>by have:=MA x hx;have:=gb y hy;omega
   replace oa:=oa.below au;replace hW:=hW.trans (au.mono hW.size);clear au gb MA;refine Or.inl ⟨_,rfl,I _ hW,?_⟩;simp only[Act.put,pgE,pjE];refine onX 7 5 rfl (by kernel_rfl) ?_
   go_wp2
   refine ThenX.to ⟨Or.inr (I _ hW),?_⟩;refine onX 8 4 rfl (by kernel_rfl) ?_;have Y:Below w9.heap.size w9 (w9.alloc (.cells #[.slice x1 3 y1,.slice x2 3 y2] 172)):=by go_grown
   replace hW:=hW.trans (Y.mono hW.size);replace oa:=oa.below Y;replace ob:=ob.below Y;have al:∀j u,[Value.slice x1 3 y1,.slice x2 3 y2][j]?=some u→(w9.alloc (.cells #[.slice x1 3 y1,.slice x2 3 y2] 172)).cell? ((⟨w9.heap.size,0,none⟩:Addr).add j)=some u:=by
    intro j u hj;match j,hj with|0,hj=>simp at hj;subst hj;simp[Addr.add]|1,hj=>simp at hj;subst hj;simp[Addr.add]
   go_wp2
   refine ThenX.to ⟨Or.inr (I _ hW),?_⟩;generalize w9.alloc (.cells #[.slice x1 3 y1,.slice x2 3 y2] 172)=Z at*;clear Y;have aq:=hO.below hW;have V:=aq.1;have bo:=hW.size;refine onX 9 3 rfl (by kernel_rfl) ?_;refine wpList_append_own_at _ rfl _ _ 46 rfl 0 172 i0 (.agg #[.slice none 0 0,.slice none 0 0]) 2 48 Tryz.underlying46 hi bl bm bn rfl (by decide) _ qs.length (roundK.row qs) rfl V ⟨w9.heap.size,0,none⟩ 1 1 [.slice x1 3 y1,.slice x2 3 y2] rfl rfl al ?c2 ?c3 ?c4 ?c5 ?_
   case c2=>intro u hu;simp at hu;rcases hu with rfl|rfl<;>rfl
   case c3=>unfold maxLen;omega
   case c4=>omega
   case c5=>omega
   intro v' w5 ak T aY A;clear aY V al;obtain ⟨ar,aX,aU,a1⟩:=aq.snoc (p:=(⟨.slice x1 3 y1,[3,3,3],.slice x2 3 y2,[3,3,3]⟩:RoundQ)) (B:=0) aW (fun _ _=>Nat.zero_le _) ⟨oa,ob⟩ (List.nodup_append.2 ⟨z0z _ _,z0z _ _,ag⟩) (fun x hx r => by
    have:=HF.out x r;rcases List.mem_append.1 hx with hx|hx
    ·have:=LA x hx;omega
    ·have:=LB x hx;omega) (fun x hx=>Nat.zero_le _) (Nat.zero_le _) ak T A
   have N:∀k∈roundK.fp v' (qs++[(⟨.slice x1 3 y1,[3,3,3],.slice x2 3 y2,[3,3,3]⟩:RoundQ)]),k∈roundK.fp (.slice sa qs.length sc) qs∨w.heap.size≤k:=by
    intro k hk;unfold Kind.fp at hk⊢;rw[List.flatMap_append]at hk;rcases List.mem_append.1 hk with hk|hk
    ·rcases A with A|A
     ·left;apply List.mem_append_left;unfold blk at hk⊢;rw[A]at hk;exact hk
     ·right;unfold blk at hk;rw[A]at hk;simp only[Option.toList,List.mem_singleton]at hk;omega
    ·rcases List.mem_append.1 hk with hk|hk
     ·left;exact List.mem_append_right _ hk
     ·right;have U:k∈roundK.foot (⟨.slice x1 3 y1,[3,3,3],.slice x2 3 y2,[3,3,3]⟩:RoundQ):=by simpa using hk
      rcases List.mem_append.1 U with U|U
      ·exact LA k U
      ·exact LB k U
   obtain⟨na,nc,rfl⟩:=ar.shape;have D:Out (blk (.slice sa qs.length sc)) w w5:=(Out.of_below hW).trans a1;have X:Blk w5 g 49 #[.bool has,.slice ba d.length bk,.slice sa qs.length sc,.slice da dec.length dk]:=(D.block g bf ap).trans hG;have aT:(qs++[(⟨.slice x1 3 y1,[3,3,3],.slice x2 3 y2,[3,3,3]⟩:RoundQ)]).map RoundQ.e=pe.rounds++[z1Q]:=by rw[List.map_append,aG.out];rfl
   have bg:(qs++[(⟨.slice x1 3 y1,[3,3,3],.slice x2 3 y2,[3,3,3]⟩:RoundQ)]).length=qs.length+1:=by simp
   have ab:nx<(qs++[(⟨.slice x1 3 y1,[3,3,3],.slice x2 3 y2,[3,3,3]⟩:RoundQ)]).length:=by have:=aF.out;omega
   have aS:((qs++[(⟨.slice x1 3 y1,[3,3,3],.slice x2 3 y2,[3,3,3]⟩:RoundQ)])[nx]'ab)=(⟨.slice x1 3 y1,[3,3,3],.slice x2 3 y2,[3,3,3]⟩:RoundQ):=by
    simp only[aF.out];simp
   have az:g∉roundK.fp (.slice na (qs++[(⟨.slice x1 3 y1,[3,3,3],.slice x2 3 y2,[3,3,3]⟩:RoundQ)]).length nc) (qs++[(⟨.slice x1 3 y1,[3,3,3],.slice x2 3 y2,[3,3,3]⟩:RoundQ)]):=fun hx=>by
    rcases N g hx with hx|hx
    ·exact aA hx
    ·omega
   have af:∀x∈blk (.slice sa qs.length sc),x∈roundK.fp (.slice sa qs.length sc) qs:=fun x hx=>by simp only[Kind.fp,List.mem_append];exact Or.inl hx
   have p1:=o1.out D (fun x hx r=>aa x hx x (List.mem_append_left _ (af x r)) rfl);have p3:=o3.out D (fun x hx r=>aw x (af x r) x hx rfl);have T1:=o1.lt;have T3:=o3.lt;have aL:Out (g::instK.foot (⟨has,.slice ba d.length bk,d,.slice sa qs.length sc,qs,.slice da dec.length dk,dec⟩:InstQ)) w w5:=D.mono (fun x hx=>List.mem_cons_of_mem _ (List.mem_append_right _ (List.mem_append_left _ (af x hx))));generalize be:qs++[(⟨.slice x1 3 y1,[3,3,3],.slice x2 3 y2,[3,3,3]⟩:RoundQ)]=ks at*;have aC:(ks[nx]).rep=[3,3,3]:=by rw[aS]
   clear be bg aS a1 oa ob LA LB ag ak T A aq m0 HF
   go_wp2
   refine ThenX.to ⟨Or.inr ⟨⟨_,D⟩,rfl⟩,?_⟩;simp only[Act.put,pgE,pjE];refine onX 10 2 rfl (by kernel_rfl) ?_
   go_wp2
   refine ThenX.to ⟨Or.inr ⟨⟨_,D⟩,rfl⟩,?_⟩;refine onX 11 1 rfl (by kernel_rfl) ?_
   go_wp2
   refine ThenX.to ⟨Or.inr ⟨⟨_,D⟩,rfl⟩,?_⟩;refine onX 12 0 rfl (by kernel_rfl) ?_;have t3:=X.cell 2 _ rfl;have t4:=X.frozen 2;have an:Blk (w5.setCell ⟨g,2,none⟩ (.slice na ks.length nc)) g 49 #[.bool has,.slice ba d.length bk,.slice na ks.length nc,.slice da dec.length dk]:=X.set 2 (.slice na ks.length nc);have U6:=Out.setCell w5 g 2 (.slice na ks.length nc);have r1:=p1.out U6 (fun x hx r=>by simp only[List.mem_singleton]at r;subst r;exact aB hx);have r2:=ar.out U6 (fun x hx r=>by simp only[List.mem_singleton]at r;subst r;exact az hx);have r3:=p3.out U6 (fun x hx r=>by simp only[List.mem_singleton]at r;subst r;exact ay hx);have G:=aL.set (b:=g) (j:=2) (u:=.slice na ks.length nc) (List.mem_cons_self ..);have ok:instK.own (w5.setCell ⟨g,2,none⟩ (.slice na ks.length nc)) (⟨has,.slice ba d.length bk,d,.slice na ks.length nc,ks,.slice da dec.length dk,dec⟩:InstQ):=⟨r1,r2,r3⟩
   have nk:(instK.foot (⟨has,.slice ba d.length bk,d,.slice na ks.length nc,ks,.slice da dec.length dk,dec⟩:InstQ)).Nodup:=by
    refine List.nodup_append.2 ⟨aV,List.nodup_append.2 ⟨aX,ai,fun x hx y hy e=>?_⟩,fun x hx y hy e=>?_⟩
    ·subst e;rcases N x hx with hx|hx
     ·exact aw x hx x hy rfl
     ·have:=T3 x hy;omega
    ·subst e;rcases List.mem_append.1 hy with hy|hy
     ·rcases N x hy with hy|hy
      ·exact aa x hx x (List.mem_append_left _ hy) rfl
      ·have:=T1 x hx;omega
     ·exact aa x hx x (List.mem_append_right _ hy) rfl
   have aR:g∉instK.foot (⟨has,.slice ba d.length bk,d,.slice na ks.length nc,ks,.slice da dec.length dk,dec⟩:InstQ):=fun hx=>by
    rcases List.mem_append.1 hx with hx|hx
    ·exact aB hx
    ·rcases List.mem_append.1 hx with hx|hx
     ·exact az hx
     ·exact ay hx
   have ax:∀x∈instK.foot (⟨has,.slice ba d.length bk,d,.slice na ks.length nc,ks,.slice da dec.length dk,dec⟩:InstQ),x∈instK.foot (⟨has,.slice ba d.length bk,d,.slice sa qs.length sc,qs,.slice da dec.length dk,dec⟩:InstQ)∨w.heap.size≤x:=fun x hx=>by
    rcases List.mem_append.1 hx with hx|hx
    ·exact Or.inl (List.mem_append_left _ hx)
    ·rcases List.mem_append.1 hx with hx|hx
     ·rcases N x hx with hx|hx
      ·exact Or.inl (List.mem_append_right _ (List.mem_append_left _ hx))
      ·exact Or.inr hx
     ·exact Or.inl (List.mem_append_right _ (List.mem_append_right _ hx))
   clear X U6 r1 r3 p1 p3 ar aX aU N aL aV ah aW ai aa aw aB aA ay az T1 T3 af hG o1 hO o3 nq
   go_wp2
   refine ThenX.to ⟨Or.inl (by kernel_rfl),?_⟩;refine q0b (by kernel_rfl) ?_;clear t3 t4 D bi I ap hW;generalize w5.setCell ⟨g,2,none⟩ (.slice na ks.length nc)=w6 at*;obtain⟨gr,rfl⟩:=r2.blkOf (by omega);have av:=r2.cell nx ab 0 ((ks[nx]).vr) rfl;clear r2;have a8:(ks[nx]).rep.length=3:=by rw[aC];rfl
   obtain⟨g5,C,L,O,kc,kf,E,s⟩:=z2N ok nk nx n ab (by show n<(ks[nx]).rep.length;omega) v;have am:(ks[nx]).vr=.slice (some ⟨g5,0,none⟩) 3 C:=by rw[←a8];exact L
   rw[am]at av;have aO:w6.cell? ⟨gr,nx*2,none⟩=some (.slice (some ⟨g5,0,none⟩) 3 C):=av.1;have bp:w6.cell? ⟨g5,n,none⟩=some (.int .i64 3):=by
    have e:(ks[nx]).rep[n]'(by omega)=3:=by
     simp only[aC]
     match n,hn with
     |0,_=>rfl
     |1,_=>rfl
     |2,_=>rfl
    have bd:w6.cell? ⟨g5,n,none⟩=some (iv ((ks[nx]).rep[n]'(by omega))):=kc;rw[e]at bd;exact bd
   have aD:g≠g5:=fun e=>aR (e▸O)
   have aI:=an.other (b':=g5) aD n (iv v);have aK:Out (g::instK.foot (⟨has,.slice ba d.length bk,d,.slice sa qs.length sc,qs,.slice da dec.length dk,dec⟩:InstQ)) w (w6.setCell ⟨g5,n,none⟩ (iv v)):=by
    have:=Out.setCell w6 g5 n (iv v);refine⟨this.os.trans G.os,this.tape.trans G.tape,this.output.trans G.output,Nat.le_trans G.size this.size,fun x hx hn=>?_⟩;refine(this.block x (Nat.lt_of_lt_of_le hx G.size) (fun r=>?_)).trans (G.block x hx hn);simp only[List.mem_singleton]at r;subst r;rcases ax x O with h|h
    ·exact hn (List.mem_cons_of_mem _ h)
    ·omega
   have aQ:=ao.out ks (.slice (some ⟨gr,0,none⟩) ks.length nc) ab aT;have z2:w6.cell? ⟨g,2,none⟩=some (.slice (some ⟨gr,0,none⟩) ks.length nc):=an.cell 2 _ rfl;have aZ:(nx:Int)<ks.length:=by omega
   have HZ:Hid (∀w',w'=w6.setCell ⟨g5,n,none⟩ (iv v)→∃q':InstQ,q'.e=⟨pe.has,pe.batch,z2Z (pe.rounds++[z1Q]) nx n v,pe.dec⟩∧Blk w' g 49 #[.bool q'.has,q'.vb,q'.vr,q'.vd]∧instK.own w' q'∧(instK.foot q').Nodup∧(∀k∈instK.foot q',k∈instK.foot (⟨has,.slice ba d.length bk,d,.slice sa qs.length sc,qs,.slice da dec.length dk,dec⟩:InstQ)∨w.heap.size≤k)∧Out (g::instK.foot (⟨has,.slice ba d.length bk,d,.slice sa qs.length sc,qs,.slice da dec.length dk,dec⟩:InstQ)) w w'):=fun w' W=>by
    subst W;exact⟨_,aQ,aI,E,by rw[s];exact nk,fun k hk=>ax k (by rw[s]at hk;exact hk),aK⟩
   clear aQ aI E aK s ax G ok nk av kc ao aT L am an aC aR
   go_wp2
   go_ret;obtain⟨q',k1,k2,k3,k4,k5,k6⟩:=HZ.out _ rfl;exact⟨q',rfl,k1,k2,k3,k4,k5,k6⟩
def coF(has:Bool)(coin:Int):Int:=if coin=1∧has=false then 0 else coin
def goC(x:InstE)(node round mask coin:Int):Int:=if atC x node round=0 then(if proA x.rounds round.toNat node.toNat=3 then 8 else if chC (x.rounds.getD round.toNat rnd0).pro mask (coF x.has coin)=0 then rpC x.rounds (round.toNat+1) node.toNat else chC (x.rounds.getD round.toNat rnd0).pro mask (coF x.has coin))else atC x node round
def goI(x:InstE)(node round mask coin:Int):InstE:=if goC x node round mask coin=0 then⟨x.has,x.batch,rpI x.rounds (round.toNat+1) node.toNat (cfV (x.rounds.getD round.toNat rnd0).pro mask (coF x.has coin)),if cfD (x.rounds.getD round.toNat rnd0).pro mask (coF x.has coin)then x.dec.set node.toNat (cfV (x.rounds.getD round.toNat rnd0).pro mask (coF x.has coin))else x.dec⟩else z1L
def goZ(x:InstE)(node round mask coin:Int):Int:=0
def goD(x:InstE)(node round mask coin:Int):Bool:=if goC x node round mask coin=0 then cfD (x.rounds.getD round.toNat rnd0).pro mask (coF x.has coin)else false
def goK(x:InstE)(node round mask coin:Int):Bool:=if goC x node round mask coin=0 then cfK (x.rounds.getD round.toNat rnd0).pro mask (coF x.has coin)else false
def goV(x:InstE)(node round mask coin:Int):Int:=if goC x node round mask coin=0 then cfV (x.rounds.getD round.toNat rnd0).pro mask (coF x.has coin)else 0
def q0F(x:InstE)(node round mask coin c:Int):Prop:=goC x node round mask coin=c∧goI x node round mask coin=z1L∧goZ x node round mask coin=0∧goD x node round mask coin=false∧goK x node round mask coin=false∧goV x node round mask coin=0
theorem z9j{x:InstE}{node round mask coin c:Int}(h:goC x node round mask coin=c)(h0:c≠0):q0F x node round mask coin c:=by
 have hc:¬goC x node round mask coin=0:=by rw[h];exact h0
 exact⟨h,if_neg hc,rfl,if_neg hc,if_neg hc,if_neg hc⟩
theorem z5h(x:InstE)(q round d c:Int):(atC x q round≠0→q0F x q round d c (atC x q round))∧
  (atC x q round=0→insF x=0∧∃ n r:Nat,q=(n:Int)∧round=(r:Int)∧n < 3∧r < x.rounds.length ∧
   (proA x.rounds r n=3→q0F x q round d c 8)∧
   (proA x.rounds r n≠3→chC (x.rounds.getD r rnd0).pro d (coF x.has c)≠0→q0F x q round d c (chC (x.rounds.getD r rnd0).pro d (coF x.has c)))∧
   (proA x.rounds r n≠3→chC (x.rounds.getD r rnd0).pro d (coF x.has c)=0→rpC x.rounds (r+1) n≠0→q0F x q round d c (rpC x.rounds (r+1) n))∧
   (proA x.rounds r n≠3→chC (x.rounds.getD r rnd0).pro d (coF x.has c)=0→rpC x.rounds (r + 1) n=0→goC x q round d c=0∧goI x q round d c=⟨x.has,x.batch,rpI x.rounds (r + 1) n (cfV (x.rounds.getD r rnd0).pro d (coF x.has c)),if cfD (x.rounds.getD r rnd0).pro d (coF x.has c) then x.dec.set n (cfV (x.rounds.getD r rnd0).pro d (coF x.has c)) else x.dec⟩∧goZ x q round d c=0∧goD x q round d c=cfD (x.rounds.getD r rnd0).pro d (coF x.has c)∧goK x q round d c=cfK (x.rounds.getD r rnd0).pro d (coF x.has c)∧goV x q round d c=cfV (x.rounds.getD r rnd0).pro d (coF x.has c))):=by
 refine⟨fun h0=>z9j (if_neg h0) h0,fun h0=>?_⟩;obtain⟨hi,n,r,rfl,rfl,hn,hr⟩:=z6x h0;refine⟨hi,n,r,rfl,rfl,hn,hr,fun h1=>?_,fun h1 h2=>?_,fun h1 h2 h3=>?_,fun h1 h2 h3=>?_⟩
 ·exact z9j (by unfold goC;rw[if_pos h0,Int.toNat_natCast,Int.toNat_natCast,if_pos h1]) (by decide)
 ·exact z9j (by unfold goC;rw[if_pos h0,Int.toNat_natCast,Int.toNat_natCast,if_neg h1,if_neg h2]) h2
 ·exact z9j (by unfold goC;rw[if_pos h0,Int.toNat_natCast,Int.toNat_natCast,if_neg h1,if_pos h2]) h3
 ·have e:goC x n r d c=0:=by unfold goC;rw[if_pos h0,Int.toNat_natCast,Int.toNat_natCast,if_neg h1,if_pos h2,h3]
  refine⟨e,?_,rfl,?_,?_,?_⟩
  ·unfold goI;rw[if_pos e,Int.toNat_natCast,Int.toNat_natCast]
  ·unfold goD;rw[if_pos e,Int.toNat_natCast]
  ·unfold goK;rw[if_pos e,Int.toNat_natCast]
  ·unfold goV;rw[if_pos e,Int.toNat_natCast]
end Go.Proofs.YtciofogeiohleaaGreatDoor

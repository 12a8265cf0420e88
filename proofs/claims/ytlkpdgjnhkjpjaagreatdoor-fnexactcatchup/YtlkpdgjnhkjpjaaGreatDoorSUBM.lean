import Derived.Test.YtlkpdgjnhkjpjaaGreatDoorSUBL
import Derived.Test.YtlkpdgjnhkjpjaaGreatDoorSUAV
set_option linter.unusedVariables false
set_option linter.unusedSimpArgs false
set_option maxRecDepth 100000
set_option maxHeartbeats 16000000
namespace Go.Proofs.YtlkpdgjnhkjpjaaGreatDoor
open Go.RowKit Go.BigFrame
open InstQ renaming e->R
open Blk renaming new->H
open Act renaming put->B
open Out renaming of_below->P
open IntKind renaming i64->G
open Value renaming int->Q,slice->K
theorem q0C{ds:List InstE}{sf:Int}{F:RepE}:∀ (m:Nat) (k:Int) (x:RepE),CuI ds sf F k x→cuN ds k=m→nodF ds (decN ds:Int) sf F=0
 |0,k,x,h,e=>by
  have hk:¬k<(decN ds:Int):=by unfold cuN at e;omega
  obtain⟨h1,h2⟩:=z94 h hk;rw[←h1,←h2];exact h.1
 |m+1,k,x,h,e=>by
  have hk:k<(decN ds:Int):=by unfold cuN at e;omega
  exact q0C m _ _ (z7S h hk) (by unfold cuN at*;omega)
theorem q7b{ds:List InstE}{kn sf:Int}{x:RepE}{q:RepQ}(h:q.e=cuX ds kn sf x):q.n≤1048576:=by
 by_cases h0:nodF ds kn sf x=0
 ·rw[(q7a h0).2.2.2.2]at h;exact q5Z (kn:=(decN ds:Int)) (sf:=sf) (by rw[h];exact q0C _ _ _ (z51 h0) rfl)
 ·rw[(q69 h0).2.2.2.2]at h;have:=q6D (p:=q) (q:=q3y) h;rw[this];simp[RepQ.n,q3y,nmL]
theorem z9a(p:RepQ):nmRep p≤3*p.n:=by
 obtain⟨vd,done,vb,base,vt,tent,vu,undos,vn,now⟩:=p;have h1:=z2Z done;have h2:=z2Z tent;have h3:=z7y undos;simp only[nmRep,RepQ.n];omega
theorem Blk.outs9{w w':World}{b:Nat}{t:TypeId}{cs:Array Value}{F:List Nat}(h:Blk w b t cs)(hU:Out F w w')(hF:b∉F):Blk w' b t cs:=(hU.block b h.lt hF).trans h
theorem q6N:(Tryz.prog.info? 35).map (·.size)=some 9:=by kernel_rfl
theorem z7T(v:Value)(ps:List InstQ)(kn sf:Int)(p:RepQ)(ds:List InstE)(x:RepE)(hd:ps.map R=ds)(hx:p.e=x)(w:World)(h:instK.Own w v ps)(hl:(ps.length+nmL InstQ.n ps)≤1048576)(hp:repK.own w p)(hl':p.n≤1048576):
  Calls Tryz.prog 31 #[v,.agg #[Q G kn,Q G sf,p.vd,p.vb,p.vt,p.vu,p.vn]] w fun e w'=>∃q:RepQ,e=.returned (.agg #[Q G (cuC ds kn sf x),Q G (cuA ds kn sf x),Q G (cuK ds kn sf x),Q G (cuS ds kn sf x),q.vd,q.vb,q.vt,q.vu,q.vn])∧q.e=cuX ds kn sf x∧repK.own w' q∧(repK.foot q).Nodup∧(∀k∈repK.foot q,w.heap.size≤k)∧Below w.heap.size w w':=by
 subst hd hx;exact z52 v ps kn sf p w h.at hl hp hl'
theorem z7U(v:Value)(ps:List InstQ)(kn sf:Int)(p:RepQ)(ds:List InstE)(x:RepE)(hd:ps.map R=ds)(hx:p.e=x)(w:World)(hG:Rul w)(hE:ErrT w)(h:instK.Own w v ps)(hl:(ps.length+nmL InstQ.n ps)≤1048576)(hp:repK.own w p)(hl':p.n≤1048576):
  Calls Tryz.prog 30 #[v,.agg #[Q G kn,Q G sf,p.vd,p.vb,p.vt,p.vu,p.vn]] w fun e w'=>∃q:RepQ,e=.returned (.agg #[Q G (cuC ds kn sf x),Q G (cuA ds kn sf x),Q G (cuK ds kn sf x),Q G (cuS ds kn sf x),q.vd,q.vb,q.vt,q.vu,q.vn])∧q.e=cuX ds kn sf x∧repK.own w' q∧(repK.foot q).Nodup∧(∀k∈repK.foot q,w.heap.size≤k)∧Below w.heap.size w w':=by
 subst hd hx;exact z54 v ps kn sf p w hG hE h hl hp hl'
theorem q54(v:Value)(ps:List InstQ)(kn sf:Int)(p:RepQ)(w:World)(hG:Rul w)(hE:ErrT w)(h:instK.At w v ps)(hn:ps.length≤9223372036854775807)(cc:∀p∈ps,InstQ.wf p)(hp:repK.rd w p)(hw:p.wf):
  Calls Tryz.prog 10 #[v,.agg #[Q G kn,Q G sf,p.vd,p.vb,p.vt,p.vu,p.vn]] w fun e w'=>e=.returned (.bool true)∧Below w.heap.size w w':=by
 have bz:=fun w h=>z7g v ps 1048576 w h hn cc (by omega) (by omega)
 have bp:=fun c w h h0 h1=>q38 kn sf p c w h hw h0 h1
 have bA:=fun w h hl=>z7i v ps w h hl
 have bq:=fun w h hl=>q39 kn sf p w h hl
 have bY:=fun v qs q (hq:qs.map R=ps.map R) (hr:RepQ.e q=p.e) w h hl h' aJ=>z7T v qs kn sf q _ _ hq hr w h hl h' aJ
 have bT:=fun v qs q (hq:qs.map R=ps.map R) (hr:RepQ.e q=p.e) w hG hE h hl h' aJ=>z7U v qs kn sf q _ _ hq hr w hG hE h hl h' aJ
 have bX:∀q:RepQ,q.e=cuX (ps.map R) kn sf p.e→q.n≤1048576:=fun q hq=>q7b hq
 have bW:∀qs:List InstQ,qs.map R=ps.map R→qs.length+nmL InstQ.n qs=ps.length+nmL InstQ.n ps:=fun qs hq=>q5p hq
 have bV:∀q:RepQ,q.e=p.e→q.n=p.n:=fun q hq=>q6D hq
 have bw:=fun v v' (q q':List InstQ) (hq:q.map R=ps.map R) (bn:q'.map R=ps.map R) w h h' hl=>z7h v v' q q' w h h' (hq.trans bn.symm) hl
 have bv:=fun(q q':RepQ) (hq:q.e=p.e) (bn:q'.e=p.e) w h h' hl=>q0s kn sf q q' w h h' (hq.trans bn.symm) hl
 have bo:=fun(w':World) hb=>Kind.At.below (w':=w') h hb
 have bf:=fun(w':World) hb=>repK.rd_below (w':=w') hp hb
 generalize cuX (ps.map R) kn sf p.e=E at*;generalize (cuA (ps.map R) kn sf p.e)=A at*;generalize cuK (ps.map R) kn sf p.e=K1 at*;generalize cuS (ps.map R) kn sf p.e=K2 at*;generalize cuC (ps.map R) kn sf p.e=D at*;generalize ps.map R=ds at*;generalize b9:ps.length+nmL InstQ.n ps=on at*;generalize ca:p.e=pe at*;generalize cb:p.n=pn at*;obtain⟨vd,done,vb,base,vt,au,vu,ag,vn,aR⟩:=p;obtain⟨da,dk,rfl⟩:∃a c,vd=K a done.length c:=hp.1.shape;obtain⟨ba,bk,rfl⟩:∃a c,vb=K a base.length c:=hp.2.1.shape;obtain⟨ta,tk,rfl⟩:∃a c,vt=K a au.length c:=hp.2.2.1.shape;obtain⟨ua,uk,rfl⟩:∃a c,vu=K a ag.length c:=hp.2.2.2.1.shape;obtain⟨na,nk,rfl⟩:∃a c,vn=K a aR.length c:=hp.2.2.2.2.shape;obtain⟨oa,oc,rfl⟩:=h.shape;dsimp only at bp bq bf;have b0:Below w.heap.size w (w.alloc (.cells #[Q G kn,Q G sf,K da done.length dk,K ba base.length bk,K ta au.length tk,K ua ag.length uk,K na aR.length nk] 63)):=by go_grown
 have A0:=H w 63 #[Q G kn,Q G sf,K da done.length dk,K ba base.length bk,K ta au.length tk,K ua ag.length uk,K na aR.length nk];go_enter Tryz.func10,Tryz.ntmps10
 go_wp2_with fail
 generalize w.alloc (.cells #[Q G kn,Q G sf,K da done.length dk,K ba base.length bk,K ta au.length tk,K ua ag.length uk,K na aR.length nk] 63)=W at*;refine(bz W (bo W b0)).mono ?_;rintro e w1 ⟨r,rfl,hr,hb⟩;replace A0:=A0.below hb;replace b0:=b0.trans (hb.mono b0.size);clear hb;clear bz;by_cases bU:r<0
 ·go_wp2
  go_ret;exact⟨rfl,b0⟩
 have hl:((on:Nat):Int)+r=1048576:=hr (by omega);clear hr;obtain⟨p0,p1,p2,p3,p4,p5,p6⟩:=A0.cel7
 go_wp2_with fail
 clear p0 p1 p2 p3 p4 p5 p6;refine(bp r w1 (bf w1 b0) (by omega) (by omega)).mono ?_;rintro e w2 ⟨r',rfl,hr,hb⟩;replace A0:=A0.below hb;replace b0:=b0.trans (hb.mono b0.size);clear hb;clear bp;by_cases bL:r'<0
 ·go_wp2
  go_ret;exact⟨rfl,b0⟩
 have aJ:((pn:Nat):Int)+r'=r:=hr (by omega);clear hr;replace aJ:pn≤1048576:=by omega
 replace hl:on≤1048576:=by omega
 go_wp2_with fail
 clear bU bL;have bj:Hid _:=bA;clear bA;have bi:Hid _:=bq;clear bq;have bQ:Hid _:=bY;clear bY;have bB:Hid _:=bT;clear bT;have bD:Hid _:=bX;clear bX;have bc:Hid _:=bW;clear bW;have bC:Hid _:=bV;clear bV;have bO:Hid _:=bw;clear bw;have bZ:Hid _:=bv;clear bv;have bt:Hid _:=bo;clear bo;have bs:Hid _:=bf;clear bf;clear b9 ca cb;obtain⟨k0,k1,k2,k3,k4,k5,k6⟩:=A0.lts7;refine z0X [some 24,some 25,some 26,some 27,some 28,some 6] (fun vs w'=>∃ (v25 v27:Value) (ak:Option Addr) (al:Nat) (C:List TxnQ) (ai:Option Addr) (aj:Nat) (z:List ItemD) (ao:Option Addr) (ap:Nat) (I:List TxnQ) (aq:Option Addr) (ar:Nat) (d:List USQ) (am:Option Addr) (an:Nat) (O:List ItemD) (g:Nat),vs=[K oa ps.length oc,v25,.agg #[Q G kn,Q G sf,K da done.length dk,K ba base.length bk,K ta au.length tk,K ua ag.length uk,K na aR.length nk],v27,.agg #[Q G D,Q G A,Q G K1,Q G K2,K ak C.length al,K ai z.length aj,K ao I.length ap,K aq d.length ar,K am O.length an],.pointer (some ⟨g,0,none⟩)]∧w2.heap.size≤g∧Blk w' g 35 #[Q G D,Q G A,Q G K1,Q G K2,K ak C.length al,K ai z.length aj,K ao I.length ap,K aq d.length ar,K am O.length an]∧RepQ.e (⟨K ak C.length al,C,K ai z.length aj,z,K ao I.length ap,I,K aq d.length ar,d,K am O.length an,O⟩:RepQ)=E∧repK.own w' (⟨K ak C.length al,C,K ai z.length aj,z,K ao I.length ap,I,K aq d.length ar,d,K am O.length an,O⟩:RepQ)∧(∀k∈repK.foot (⟨K ak C.length al,C,K ai z.length aj,z,K ao I.length ap,I,K aq d.length ar,d,K am O.length an,O⟩:RepQ),w2.heap.size≤k∧k≠g)∧(repK.foot (⟨K ak C.length al,C,K ai z.length aj,z,K ao I.length ap,I,K aq d.length ar,d,K am O.length an,O⟩:RepQ)).Nodup∧Below w2.heap.size w2 w') ?_ ?_
 ·have hW:Below w2.heap.size w2 w2.drew:=(Below.refl _ _).drew;have bM:Nonempty (Lat w2):=⟨⟨w2,Below.refl _ _⟩⟩
  refine z0a (S:=fun w'=>∃u:Lat w2,w'=u.val) (by kernel_rfl) ?_;refine sgr [(0,1),(2,1)] 5 (by kernel_rfl) ⟨⟨_,hW⟩,rfl⟩ ?_;simp only[pkE];repeat go_big_quiet_step (fail)
  refine wpQuiet_nil ?_;clear k0 k1 k2 k3 k4 k5 k6;generalize w2.drew=x at hW⊢;refine twa 1 5 4 (by kernel_rfl) ?_ ?_
  rotate_left
  focus
   refine z00 5 _ rfl ?_;have Bz:=H x 35 #[Q G 0,Q G 0,Q G 0,Q G 0,K none 0 0,K none 0 0,K none 0 0,K none 0 0,K none 0 0];have be:w2.heap.size≤x.heap.size:=hW.size;have Z:Below x.heap.size x (x.alloc (.cells #[Q G 0,Q G 0,Q G 0,Q G 0,K none 0 0,K none 0 0,K none 0 0,K none 0 0,K none 0 0] 35)):=by go_grown
   replace hW:=hW.trans (Z.mono hW.size);clear Z
   go_wp2
   refine ThenGo.to ⟨⟨⟨_,hW⟩,rfl⟩,?_⟩;generalize aG:x.heap.size=g at*;clear aG;generalize x.alloc (.cells #[Q G 0,Q G 0,Q G 0,Q G 0,K none 0 0,K none 0 0,K none 0 0,K none 0 0,K none 0 0] 35)=x at*
  all_goals first|refine cla 1 (some 25) 37 #[K oa ps.length oc] 3 (by kernel_rfl) ?_|refine opc 1 (some 25) 37 #[K oa ps.length oc] (by kernel_rfl) ?_
  all_goals
   refine(bj.out _ (bt.out _ (b0.trans (hW.mono b0.size))) hl).mono ?_;rintro e x ⟨v1,c1,rfl,f1,t1,_,_,hb⟩;obtain⟨xa,xc,rfl⟩:=t1.shape;try replace Bz:=Bz.below hb
   replace hW:=hW.trans (hb.mono hW.size);clear hb;refine⟨_,rfl,⟨⟨_,hW⟩,rfl⟩,?_⟩;simp only[B,pgE,pjE]
  rotate_right
  refine twa 3 5 3 (by kernel_rfl) ?_ ?_
  rotate_left
  focus
   refine z00 5 _ rfl ?_;have Bz:=H x 35 #[Q G 0,Q G 0,Q G 0,Q G 0,K none 0 0,K none 0 0,K none 0 0,K none 0 0,K none 0 0];have be:w2.heap.size≤x.heap.size:=hW.size;have Z:Below x.heap.size x (x.alloc (.cells #[Q G 0,Q G 0,Q G 0,Q G 0,K none 0 0,K none 0 0,K none 0 0,K none 0 0,K none 0 0] 35)):=by go_grown
   replace t1:=t1.below Z;replace hW:=hW.trans (Z.mono hW.size);clear Z
   go_wp2
   refine ThenGo.to ⟨⟨⟨_,hW⟩,rfl⟩,?_⟩;generalize aG:x.heap.size=g at*;clear aG;generalize x.alloc (.cells #[Q G 0,Q G 0,Q G 0,Q G 0,K none 0 0,K none 0 0,K none 0 0,K none 0 0,K none 0 0] 35)=x at*
  all_goals first|refine cla 3 (some 27) 38 #[.agg #[Q G kn,Q G sf,K da done.length dk,K ba base.length bk,K ta au.length tk,K ua ag.length uk,K na aR.length nk]] 2 (by kernel_rfl) ?_|refine opc 3 (some 27) 38 #[.agg #[Q G kn,Q G sf,K da done.length dk,K ba base.length bk,K ta au.length tk,K ua ag.length uk,K na aR.length nk]] (by kernel_rfl) ?_
  all_goals
   refine(bi.out _ (bs.out _ (b0.trans (hW.mono b0.size))) aJ).mono ?_;rintro e x ⟨q1,rfl,e1,o1,_,_,hb⟩;replace t1:=t1.below hb;try replace Bz:=Bz.below hb
   replace hW:=hW.trans (hb.mono hW.size);clear hb;refine⟨_,rfl,⟨⟨_,hW⟩,rfl⟩,?_⟩;simp only[B,pgE,pjE]
  rotate_right
  refine twa 4 5 2 (by kernel_rfl) ?_ ?_
  rotate_left
  focus
   refine z00 5 _ rfl ?_;have Bz:=H x 35 #[Q G 0,Q G 0,Q G 0,Q G 0,K none 0 0,K none 0 0,K none 0 0,K none 0 0,K none 0 0];have be:w2.heap.size≤x.heap.size:=hW.size;have Z:Below x.heap.size x (x.alloc (.cells #[Q G 0,Q G 0,Q G 0,Q G 0,K none 0 0,K none 0 0,K none 0 0,K none 0 0,K none 0 0] 35)):=by go_grown
   replace t1:=t1.below Z;replace o1:=repK.own_out (F:=[]) o1 (P Z) (fun _ _=>by simp);replace hW:=hW.trans (Z.mono hW.size);clear Z
   go_wp2
   refine ThenGo.to ⟨⟨⟨_,hW⟩,rfl⟩,?_⟩;generalize aG:x.heap.size=g at*;clear aG;generalize x.alloc (.cells #[Q G 0,Q G 0,Q G 0,Q G 0,K none 0 0,K none 0 0,K none 0 0,K none 0 0,K none 0 0] 35)=x at*
  all_goals first|refine cla 4 (some 28) 31 #[K xa c1.length xc,.agg #[Q G kn,Q G sf,q1.vd,q1.vb,q1.vt,q1.vu,q1.vn]] 1 (by kernel_rfl) ?_|refine opc 4 (some 28) 31 #[K xa c1.length xc,.agg #[Q G kn,Q G sf,q1.vd,q1.vb,q1.vt,q1.vu,q1.vn]] (by kernel_rfl) ?_
  all_goals
   refine(bQ.out _ c1 q1 f1 e1 _ t1 (by rw[bc.out c1 f1];exact hl) o1 (by rw[bC.out q1 e1];exact aJ)).mono ?_;rintro e x ⟨qs,rfl,es,os,br,gs,hb⟩;have bE:∀k∈repK.foot qs,w2.heap.size≤k:=fun k hk=>by have:=gs k hk;have:=hW.size;omega
   try have bd:∀k∈repK.foot qs,k≠g:=fun k hk=>by have:=gs k hk;have:=Bz.lt;omega
   obtain⟨cl,C,ch,z,ct,I,cx,d,cp,O⟩:=qs;obtain⟨ak,al,rfl⟩:∃a c,cl=K a C.length c:=os.1.shape;obtain⟨ai,aj,rfl⟩:∃a c,ch=K a z.length c:=os.2.1.shape;obtain⟨ao,ap,rfl⟩:∃a c,ct=K a I.length c:=os.2.2.1.shape;obtain⟨aq,ar,rfl⟩:∃a c,cx=K a d.length c:=os.2.2.2.1.shape;obtain⟨am,an,rfl⟩:∃a c,cp=K a O.length c:=os.2.2.2.2.shape;dsimp only;try replace Bz:=Bz.below hb
   replace hW:=hW.trans (hb.mono hW.size);clear hb;refine⟨_,rfl,⟨⟨_,hW⟩,rfl⟩,?_⟩;simp only[B,pgE,pjE]
  rotate_right
  focus
   refine ona 5 1 rfl (by kernel_rfl) ?_;have Bz:=H x 35 #[Q G 0,Q G 0,Q G 0,Q G 0,K none 0 0,K none 0 0,K none 0 0,K none 0 0,K none 0 0];have be:w2.heap.size≤x.heap.size:=hW.size;have Z:Below x.heap.size x (x.alloc (.cells #[Q G 0,Q G 0,Q G 0,Q G 0,K none 0 0,K none 0 0,K none 0 0,K none 0 0,K none 0 0] 35)):=by go_grown
   have bd:∀k∈repK.foot (⟨K ak C.length al,C,K ai z.length aj,z,K ao I.length ap,I,K aq d.length ar,d,K am O.length an,O⟩:RepQ),k≠x.heap.size:=fun k hk=>by have:=repK.own_lt os k hk;omega
   replace os:=repK.own_out (F:=[]) os (P Z) (fun _ _=>by simp);replace hW:=hW.trans (Z.mono hW.size);clear Z
   go_wp2
   refine ThenGo.to ⟨⟨⟨_,hW⟩,rfl⟩,?_⟩;generalize aG:x.heap.size=g at*;clear aG;generalize x.alloc (.cells #[Q G 0,Q G 0,Q G 0,Q G 0,K none 0 0,K none 0 0,K none 0 0,K none 0 0,K none 0 0] 35)=x at*
  all_goals
   refine ona 6 0 rfl (by kernel_rfl) ?_;have bm:w2.heap.size≤g:=by omega
   have Rz:=Bz.row #[Q G D,Q G A,Q G K1,Q G K2,K ak C.length al,K ai z.length aj,K ao I.length ap,K aq d.length ar,K am O.length an];have oz:=repK.own_out os (z0R _ g #[Q G D,Q G A,Q G K1,Q G K2,K ak C.length al,K ai z.length aj,K ao I.length ap,K aq d.length ar,K am O.length an]) (fun k hk=>by simp only[List.mem_singleton];exact bd k hk);replace hW:=z0j hW bm #[Q G D,Q G A,Q G K1,Q G K2,K ak C.length al,K ai z.length aj,K ao I.length ap,K aq d.length ar,K am O.length an];refine z0s (by kernel_rfl) 35 _ _ rfl _ #[Q G D,Q G A,Q G K1,Q G K2,K ak C.length al,K ai z.length aj,K ao I.length ap,K aq d.length ar,K am O.length an] rfl rfl 35 _ Bz q6N rfl (by simp[Value.oneCell']) ?_;refine ThenGo.to ⟨⟨⟨_,hW⟩,rfl⟩,?_⟩;refine z0e (by kernel_rfl) ?_;refine⟨rfl,_,⟨K xa c1.length xc,.agg #[Q G kn,Q G sf,q1.vd,q1.vb,q1.vt,q1.vu,q1.vn],ak,al,C,ai,aj,z,ao,ap,I,aq,ar,d,am,an,O,g,rfl,bm,Rz,es,oz,fun k hk=>⟨bE k hk,bd k hk⟩,br,hW⟩,?_⟩;simp only[z1a,B,pgE,pjE];try rfl
 rintro vs w5 ⟨v25,v27,ak,al,C,ai,aj,z,ao,ap,I,aq,ar,d,am,an,O,gs,rfl,b4,Ss,es,os,bF,br,aH⟩;simp only[z1a,B,pjE];clear k0 k1 k2 k3 k4 k5 k6;have cK:=A0.lt;replace A0:=A0.below aH;replace b0:=b0.trans (aH.mono b0.size);clear aH;have S0:=Ss;clear Ss br;have bS:=S0.lt;have cR:=b0.size;have us:∀k∈repK.foot (⟨K ak C.length al,C,K ai z.length aj,z,K ao I.length ap,I,K aq d.length ar,d,K am O.length an,O⟩:RepQ),w.heap.size<k∧k<w5.heap.size∧k≠gs:=fun k hk=>⟨by have:=bF k hk;omega,repK.own_lt os k hk,(bF k hk).2⟩
 have cC:w.heap.size<gs∧gs<w5.heap.size:=⟨by omega,bS⟩
 have cN:RepQ.n (⟨K ak C.length al,C,K ai z.length aj,z,K ao I.length ap,I,K aq d.length ar,d,K am O.length an,O⟩:RepQ)≤1048576:=bD.out _ es;clear bF bQ b4
 go_wp2_with fail
 refine(bj.out _ (bt.out _ b0) hl).mono ?_;rintro e w6 ⟨v2,c2,rfl,f2,t2,cd,bR,hb⟩;have cH:=hb.size;have ut:∀k∈instK.fp v2 c2,w5.heap.size≤k∧k<w6.heap.size:=fun k hk=>⟨bR k hk,t2.lt k hk⟩
 obtain⟨ya,yc,rfl⟩:=t2.shape;clear bR;replace A0:=A0.below hb;replace S0:=S0.below hb;replace os:=repK.own_out (F:=[]) os (P hb) (fun _ _=>by simp);replace b0:=b0.trans (hb.mono b0.size);clear hb;obtain⟨p0,p1,p2,p3,p4,p5,p6⟩:=A0.cel7
 go_wp2_with fail
 clear p0 p1 p2 p3 p4 p5 p6;refine(bi.out _ (bs.out _ b0) aJ).mono ?_;rintro e w7 ⟨q2,rfl,e2,o2,n2,g2,hb⟩;have cI:=hb.size;have u2:∀k∈repK.foot q2,w6.heap.size≤k∧k<w7.heap.size:=fun k hk=>⟨g2 k hk,repK.own_lt o2 k hk⟩
 replace A0:=A0.below hb;replace S0:=S0.below hb;replace os:=repK.own_out (F:=[]) os (P hb) (fun _ _=>by simp);replace t2:=t2.below hb;replace b0:=b0.trans (hb.mono b0.size);clear hb;clear g2;have bJ:RepQ.n q2≤1048576:=by rw[bC.out q2 e2];exact aJ
 have bI:=fun v qs hq w hG hE h hl h'=>bB.out v qs q2 hq e2 w hG hE h hl h' bJ
 have bG:=fun q' bn w h h'=>bZ.out q2 q' e2 bn w h h' bJ
 obtain⟨ci,ad,ce,ab,cq,ae,cu,Y,cm,ah⟩:=q2;obtain⟨aY,aZ,rfl⟩:∃a c,ci=K a ad.length c:=o2.1.shape;obtain⟨aW,aX,rfl⟩:∃a c,ce=K a ab.length c:=o2.2.1.shape;obtain⟨a6,a7,rfl⟩:∃a c,cq=K a ae.length c:=o2.2.2.1.shape;obtain⟨a8,bb,rfl⟩:∃a c,cu=K a Y.length c:=o2.2.2.2.1.shape;obtain⟨a1,a2,rfl⟩:∃a c,cm=K a ah.length c:=o2.2.2.2.2.shape;dsimp only at bI bG;have bP:Hid _:=bI;have bN:Hid _:=bG;clear bI bG;have X0:=H w7 31 #[Q G kn,Q G sf,K aY ad.length aZ,K aW ab.length aX,K a6 ae.length a7,K a8 Y.length bb,K a1 ah.length a2];have hb:Below w7.heap.size w7 (w7.alloc (.cells #[Q G kn,Q G sf,K aY ad.length aZ,K aW ab.length aX,K a6 ae.length a7,K a8 Y.length bb,K a1 ah.length a2] 31)):=by go_grown
 replace A0:=A0.below hb;replace S0:=S0.below hb;replace os:=repK.own_out (F:=[]) os (P hb) (fun _ _=>by simp);replace o2:=repK.own_out (F:=[]) o2 (P hb) (fun _ _=>by simp);replace t2:=t2.below hb;replace b0:=b0.trans (hb.mono b0.size);clear hb;obtain⟨p0,p1,p2,p3,p4,p5,p6⟩:=X0.cel7
 go_wp2_with fail
 clear p0 p1 p2 p3 p4 p5 p6;generalize w7.alloc (.cells #[Q G kn,Q G sf,K aY ad.length aZ,K aW ab.length aX,K a6 ae.length a7,K a8 Y.length bb,K a1 ah.length a2] 31)=W7 at*;have cL:=X0.lt;refine(bP.out _ c2 f2 _ (hG.below b0) (hE.below b0) t2 (by rw[bc.out c2 f2];exact hl) o2).mono ?_;rintro e w8 ⟨qi,rfl,ei,oi,ni,gi,hb⟩;have cJ:=hb.size;have ui:∀k∈repK.foot qi,W7.heap.size≤k∧k<w8.heap.size:=fun k hk=>⟨gi k hk,repK.own_lt oi k hk⟩
 replace A0:=A0.below hb;replace S0:=S0.below hb;replace X0:=X0.below hb;replace os:=repK.own_out (F:=[]) os (P hb) (fun _ _=>by simp);replace o2:=repK.own_out (F:=[]) o2 (P hb) (fun _ _=>by simp);replace t2:=t2.below hb;replace b0:=b0.trans (hb.mono b0.size);clear hb;clear gi bP;have bu:RepQ.n qi≤1048576:=bD.out qi ei;obtain⟨ck,U,cg,T,cs,V,cw,J,co,aa⟩:=qi;obtain⟨aM,aN,rfl⟩:∃a c,ck=K a U.length c:=oi.1.shape;obtain⟨aK,aL,rfl⟩:∃a c,cg=K a T.length c:=oi.2.1.shape;obtain⟨aS,aT,rfl⟩:∃a c,cs=K a V.length c:=oi.2.2.1.shape;obtain⟨aU,aV,rfl⟩:∃a c,cw=K a J.length c:=oi.2.2.2.1.shape;obtain⟨aP,aQ,rfl⟩:∃a c,co=K a aa.length c:=oi.2.2.2.2.shape;have Y0:=H w8 35 #[Q G D,Q G A,Q G K1,Q G K2,K aM U.length aN,K aK T.length aL,K aS V.length aT,K aU J.length aV,K aP aa.length aQ];have hb:Below w8.heap.size w8 (w8.alloc (.cells #[Q G D,Q G A,Q G K1,Q G K2,K aM U.length aN,K aK T.length aL,K aS V.length aT,K aU J.length aV,K aP aa.length aQ] 35)):=by go_grown
 replace A0:=A0.below hb;replace S0:=S0.below hb;replace X0:=X0.below hb;replace os:=repK.own_out (F:=[]) os (P hb) (fun _ _=>by simp);replace o2:=repK.own_out (F:=[]) o2 (P hb) (fun _ _=>by simp);replace oi:=repK.own_out (F:=[]) oi (P hb) (fun _ _=>by simp);replace t2:=t2.below hb;replace b0:=b0.trans (hb.mono b0.size);clear hb;obtain⟨r0,r1,r2,r3,r4,r5,r6,r7,r8⟩:=S0.cel9
 go_wp2_with fail
 clear r0 r1 r2 r3 r4 r5 r6 r7 r8;generalize w8.alloc (.cells #[Q G D,Q G A,Q G K1,Q G K2,K aM U.length aN,K aK T.length aL,K aS V.length aT,K aU J.length aV,K aP aa.length aQ] 35)=W8 at*;refine(q2N D A K1 K2 (⟨K aM U.length aN,U,K aK T.length aL,T,K aS V.length aT,V,K aU J.length aV,J,K aP aa.length aQ,aa⟩:RepQ) (⟨K ak C.length al,C,K ai z.length aj,z,K ao I.length ap,I,K aq d.length ar,d,K am O.length an,O⟩:RepQ) _ (repK.own_rd oi) (repK.own_rd os) (ei.trans es.symm) bu).mono ?_;rintro e w9 ⟨rfl,hb⟩;replace A0:=A0.below hb;replace S0:=S0.below hb;replace X0:=X0.below hb;replace Y0:=Y0.below hb;replace os:=repK.own_out (F:=[]) os (P hb) (fun _ _=>by simp);replace o2:=repK.own_out (F:=[]) o2 (P hb) (fun _ _=>by simp);replace oi:=repK.own_out (F:=[]) oi (P hb) (fun _ _=>by simp);replace t2:=t2.below hb;replace b0:=b0.trans (hb.mono b0.size);clear hb
 go_wp2_with fail
 refine(bj.out _ (bt.out _ b0) hl).mono ?_;rintro e cT ⟨v3,c3,rfl,f3,t3,_,_,hb⟩;obtain⟨za,zc,rfl⟩:=t3.shape;replace A0:=A0.below hb;replace S0:=S0.below hb;replace X0:=X0.below hb;replace Y0:=Y0.below hb;replace os:=repK.own_out (F:=[]) os (P hb) (fun _ _=>by simp);replace o2:=repK.own_out (F:=[]) o2 (P hb) (fun _ _=>by simp);replace oi:=repK.own_out (F:=[]) oi (P hb) (fun _ _=>by simp);replace t2:=t2.below hb;replace b0:=b0.trans (hb.mono b0.size);clear hb
 go_wp2_with fail
 refine(bO.out _ _ c2 c3 f2 f3 _ t2.at t3.at (by rw[bc.out c2 f2];exact hl)).mono ?_;rintro e bg ⟨rfl,hb⟩;clear t3 f3;replace A0:=A0.below hb;replace S0:=S0.below hb;replace X0:=X0.below hb;replace Y0:=Y0.below hb;replace os:=repK.own_out (F:=[]) os (P hb) (fun _ _=>by simp);replace o2:=repK.own_out (F:=[]) o2 (P hb) (fun _ _=>by simp);replace oi:=repK.own_out (F:=[]) oi (P hb) (fun _ _=>by simp);replace t2:=t2.below hb;replace b0:=b0.trans (hb.mono b0.size);clear hb;clear bO
 go_wp2_with fail
 have hW:Below bg.heap.size bg bg.drew:=(Below.refl _ _).drew;have bM:Nonempty (Lat bg):=⟨⟨bg,Below.refl _ _⟩⟩
 obtain⟨k0,k1,k2,k3,k4,k5,k6⟩:=A0.lts7;obtain⟨l0,l1,l2,l3,l4,l5,l6⟩:=X0.lts7;refine z0a (S:=fun w'=>∃u:Lat bg,w'=u.val) (by kernel_rfl) ?_;refine sgr [(0,2)] 3 (by kernel_rfl) ⟨⟨_,hW⟩,rfl⟩ ?_;simp only[pkE];repeat go_big_quiet_step (fail)
 refine wpQuiet_nil ?_;refine cla 2 (some 47) 38 #[.agg #[Q G kn,Q G sf,K da done.length dk,K ba base.length bk,K ta au.length tk,K ua ag.length uk,K na aR.length nk]] 2 (by kernel_rfl) ?_;refine(bi.out _ (bs.out _ (b0.trans (hW.mono b0.size))) aJ).mono ?_;rintro e w9 ⟨q9,rfl,e9,o9,_,_,bl⟩;replace hW:=hW.trans (bl.mono hW.size);clear bl;refine⟨_,rfl,⟨⟨_,hW⟩,rfl⟩,?_⟩;simp only[B,pjE];refine cla 3 (some 48) 41 #[.agg #[Q G kn,Q G sf,K aY ad.length aZ,K aW ab.length aX,K a6 ae.length a7,K a8 Y.length bb,K a1 ah.length a2],.agg #[Q G kn,Q G sf,q9.vd,q9.vb,q9.vt,q9.vu,q9.vn]] 1 (by kernel_rfl) ?_;refine(bN.out q9 e9 _ (repK.rd_below (repK.own_rd o2) hW) (repK.own_rd o9)).mono ?_;rintro e cy ⟨rfl,bl⟩;replace hW:=hW.trans (bl.mono hW.size);clear bl;refine⟨_,rfl,⟨⟨_,hW⟩,rfl⟩,?_⟩;simp only[B,pjE];refine sgr [(4,1)] 0 (by kernel_rfl) ⟨⟨_,hW⟩,rfl⟩ ?_;simp only[pkE];repeat go_big_quiet_step (fail)
 refine wpQuiet_nil ?_;refine z0e (by kernel_rfl) ?_;clear bM k0 k1 k2 k3 k4 k5 k6 l0 l1 l2 l3 l4 l5 l6;clear o9 e9 bN;replace A0:=A0.below hW;replace S0:=S0.below hW;replace X0:=X0.below hW;replace Y0:=Y0.below hW;replace os:=repK.own_out (F:=[]) os (P hW) (fun _ _=>by simp);replace o2:=repK.own_out (F:=[]) o2 (P hW) (fun _ _=>by simp);replace oi:=repK.own_out (F:=[]) oi (P hW) (fun _ _=>by simp);replace t2:=t2.below hW;replace b0:=b0.trans (hW.mono b0.size);clear hW
 go_wp2_with fail
 have b8:=q2u c2;refine(z5w (K ya c2.length yc) c2 1 cy t2 cd (by rw[bc.out c2 f2];exact hl) (by omega) (by have:=bc.out c2 f2;omega)).mono ?_;rintro e cz ⟨rfl,_,hU⟩;have af:∀k,k∈instK.fp (K ya c2.length yc) c2→w5.heap.size≤k∧k<w6.heap.size:=ut;replace A0:=A0.outs9 hU (fun hk=>by have:=af _ hk;omega);replace S0:=S0.outs9 hU (fun hk=>by have:=af _ hk;omega);replace X0:=X0.outs9 hU (fun hk=>by have:=af _ hk;omega);replace Y0:=Y0.outs9 hU (fun hk=>by have:=af _ hk;omega);replace os:=repK.own_out os hU (fun k hk aO=>by have:=af _ aO;have:=us k hk;omega);replace o2:=repK.own_out o2 hU (fun k hk aO=>by have:=af _ aO;have:=u2 k hk;omega);replace oi:=repK.own_out oi hU (fun k hk aO=>by have:=af _ aO;have:=ui k hk;omega);replace b0:=Out.keep b0 hU b0.size (fun k hk=>by have:=af _ hk;omega);clear af hU;clear t2;generalize b1:(nmL nmInsS c2:Int)=M1 at*;have cO:0≤M1∧M1≤4194304:=by have:=bc.out c2 f2;omega
 clear b8 b1 f2;obtain⟨p0,p1,p2,p3,p4,p5,p6⟩:=X0.cel7
 go_wp2_with fail
 clear p0 p1 p2 p3 p4 p5 p6;have b6:=z9a (⟨K aY ad.length aZ,ad,K aW ab.length aX,ab,K a6 ae.length a7,ae,K a8 Y.length bb,Y,K a1 ah.length a2,ah⟩:RepQ);refine(z6H kn sf (⟨K aY ad.length aZ,ad,K aW ab.length aX,ab,K a6 ae.length a7,ae,K a8 Y.length bb,Y,K a1 ah.length a2,ah⟩:RepQ) (1+M1) cz o2 n2 bJ (by omega) (by omega)).mono ?_;rintro e cU ⟨rfl,_,hU⟩;have af:∀k,k∈repK.foot (⟨K aY ad.length aZ,ad,K aW ab.length aX,ab,K a6 ae.length a7,ae,K a8 Y.length bb,Y,K a1 ah.length a2,ah⟩:RepQ)→w6.heap.size≤k∧k<w7.heap.size:=u2;replace A0:=A0.outs9 hU (fun hk=>by have:=af _ hk;omega);replace S0:=S0.outs9 hU (fun hk=>by have:=af _ hk;omega);replace X0:=X0.outs9 hU (fun hk=>by have:=af _ hk;omega);replace Y0:=Y0.outs9 hU (fun hk=>by have:=af _ hk;omega);replace os:=repK.own_out os hU (fun k hk aO=>by have:=af _ aO;have:=us k hk;omega);replace oi:=repK.own_out oi hU (fun k hk aO=>by have:=af _ aO;have:=ui k hk;omega);replace b0:=Out.keep b0 hU b0.size (fun k hk=>by have:=af _ hk;omega);clear af hU;clear o2;generalize b2:(nmRep (⟨K aY ad.length aZ,ad,K aW ab.length aX,ab,K a6 ae.length a7,ae,K a8 Y.length bb,Y,K a1 ah.length a2,ah⟩:RepQ):Int)=M2 at*;have cD:0≤M2∧M2≤4194304:=by omega
 have cF:¬(1+M1+M2<0):=by omega
 clear b6 b2;obtain⟨p0,p1,p2,p3,p4,p5,p6,p7,p8⟩:=Y0.cel9;obtain⟨r0,r1,r2,r3,r4,r5,r6,r7,r8⟩:=S0.cel9
 go_wp2_with fail
 clear p0 p1 p2 p3 p4 p5 p6 p7 p8;clear r0 r1 r2 r3 r4 r5 r6 r7 r8;refine(q2N D A K1 K2 (⟨K aM U.length aN,U,K aK T.length aL,T,K aS V.length aT,V,K aU J.length aV,J,K aP aa.length aQ,aa⟩:RepQ) (⟨K ak C.length al,C,K ai z.length aj,z,K ao I.length ap,I,K aq d.length ar,d,K am O.length an,O⟩:RepQ) _ (repK.own_rd oi) (repK.own_rd os) (ei.trans es.symm) bu).mono ?_;rintro e cA ⟨rfl,hb⟩;replace A0:=A0.below hb;replace S0:=S0.below hb;replace X0:=X0.below hb;replace Y0:=Y0.below hb;replace os:=repK.own_out (F:=[]) os (P hb) (fun _ _=>by simp);replace oi:=repK.own_out (F:=[]) oi (P hb) (fun _ _=>by simp);replace b0:=b0.trans (hb.mono b0.size);clear hb;obtain⟨p0,p1,p2,p3,p4,p5,p6,p7,p8⟩:=Y0.cel9
 go_wp2_with fail
 clear p0 p1 p2 p3 p4 p5 p6 p7 p8;have b7:=z9a (⟨K aM U.length aN,U,K aK T.length aL,T,K aS V.length aT,V,K aU J.length aV,J,K aP aa.length aQ,aa⟩:RepQ);refine(q4a D A K1 K2 (⟨K aM U.length aN,U,K aK T.length aL,T,K aS V.length aT,V,K aU J.length aV,J,K aP aa.length aQ,aa⟩:RepQ) 1 cA oi ni bu (by omega) (by omega)).mono ?_;rintro e bh ⟨rfl,om,hU⟩;have af:∀k,k∈repK.foot (⟨K aM U.length aN,U,K aK T.length aL,T,K aS V.length aT,V,K aU J.length aV,J,K aP aa.length aQ,aa⟩:RepQ)→W7.heap.size≤k∧k<w8.heap.size:=ui;replace A0:=A0.outs9 hU (fun hk=>by have:=af _ hk;omega);replace S0:=S0.outs9 hU (fun hk=>by have:=af _ hk;omega);replace X0:=X0.outs9 hU (fun hk=>by have:=af _ hk;omega);replace Y0:=Y0.outs9 hU (fun hk=>by have:=af _ hk;omega);replace os:=repK.own_out os hU (fun k hk aO=>by have:=af _ aO;have:=us k hk;omega);replace b0:=Out.keep b0 hU b0.size (fun k hk=>by have:=af _ hk;omega);clear af hU;clear oi;have rm:=repK.own_rd om;clear om;have bK:Hid (∀w',Below bh.heap.size bh w'→repK.rd w' (mkRep 1 (⟨K aM U.length aN,U,K aK T.length aL,T,K aS V.length aT,V,K aU J.length aV,J,K aP aa.length aQ,aa⟩:RepQ))):=fun w' hb=>repK.rd_below rm hb
 have aI:Below bh.heap.size bh bh:=Below.refl _ _;have bx:=fun w h=>q4b D A K1 K2 (⟨K aM U.length aN,U,K aK T.length aL,T,K aS V.length aT,V,K aU J.length aV,J,K aP aa.length aQ,aa⟩:RepQ) 1 w h bu (by omega) (by omega)
 have bH:Hid _:=bx;clear bx;generalize b3:(nmRep (⟨K aM U.length aN,U,K aK T.length aL,T,K aS V.length aT,V,K aU J.length aV,J,K aP aa.length aQ,aa⟩:RepQ):Int)=Mi at*;have cE:0≤Mi∧Mi≤4194304:=by omega
 have cQ:¬(1+Mi<0):=by omega
 have cP:((1+Mi) !=(1+Mi))=false:=by simp
 clear b7 b3 rm;obtain⟨p0,p1,p2,p3,p4,p5,p6,p7,p8⟩:=Y0.cel9
 go_wp2_with fail
 clear p0 p1 p2 p3 p4 p5 p6 p7 p8;refine(bH.out bh (bK.out _ aI)).mono ?_;rintro e av ⟨rfl,hb⟩;replace aI:=aI.trans (hb.mono aI.size);replace A0:=A0.below hb;replace S0:=S0.below hb;replace X0:=X0.below hb;replace Y0:=Y0.below hb;replace os:=repK.own_out (F:=[]) os (P hb) (fun _ _=>by simp);replace b0:=b0.trans (hb.mono b0.size);clear hb
 go_wp2_with fail
 obtain⟨k0,k1,k2,k3,k4,k5,k6⟩:=A0.lts7;refine z0X [some 75,some 76,some 77,some 78,some 79,some 13] (fun vs w'=>∃ (v25 v27:Value) (ay:Option Addr) (az:Nat) (M:List TxnQ) (aw:Option Addr) (ax:Nat) (L:List ItemD) (aC:Option Addr) (aD:Nat) (N:List TxnQ) (aE:Option Addr) (aF:Nat) (y:List USQ) (aA:Option Addr) (aB:Nat) (X:List ItemD) (g:Nat),vs=[K oa ps.length oc,v25,.agg #[Q G kn,Q G sf,K da done.length dk,K ba base.length bk,K ta au.length tk,K ua ag.length uk,K na aR.length nk],v27,.agg #[Q G D,Q G A,Q G K1,Q G K2,K ay M.length az,K aw L.length ax,K aC N.length aD,K aE y.length aF,K aA X.length aB],.pointer (some ⟨g,0,none⟩)]∧av.heap.size≤g∧Blk w' g 35 #[Q G D,Q G A,Q G K1,Q G K2,K ay M.length az,K aw L.length ax,K aC N.length aD,K aE y.length aF,K aA X.length aB]∧RepQ.e (⟨K ay M.length az,M,K aw L.length ax,L,K aC N.length aD,N,K aE y.length aF,y,K aA X.length aB,X⟩:RepQ)=E∧repK.own w' (⟨K ay M.length az,M,K aw L.length ax,L,K aC N.length aD,N,K aE y.length aF,y,K aA X.length aB,X⟩:RepQ)∧(∀k∈repK.foot (⟨K ay M.length az,M,K aw L.length ax,L,K aC N.length aD,N,K aE y.length aF,y,K aA X.length aB,X⟩:RepQ),av.heap.size≤k∧k≠g)∧(repK.foot (⟨K ay M.length az,M,K aw L.length ax,L,K aC N.length aD,N,K aE y.length aF,y,K aA X.length aB,X⟩:RepQ)).Nodup∧Below av.heap.size av w') ?_ ?_
 ·have hW:Below av.heap.size av av.drew:=(Below.refl _ _).drew;have bM:Nonempty (Lat av):=⟨⟨av,Below.refl _ _⟩⟩
  refine z0a (S:=fun w'=>∃u:Lat av,w'=u.val) (by kernel_rfl) ?_;refine sgr [(0,1),(2,1)] 5 (by kernel_rfl) ⟨⟨_,hW⟩,rfl⟩ ?_;simp only[pkE];repeat go_big_quiet_step (fail)
  refine wpQuiet_nil ?_;clear k0 k1 k2 k3 k4 k5 k6;generalize av.drew=x at hW⊢;refine twa 1 5 4 (by kernel_rfl) ?_ ?_
  rotate_left
  focus
   refine z00 5 _ rfl ?_;have Bz:=H x 35 #[Q G 0,Q G 0,Q G 0,Q G 0,K none 0 0,K none 0 0,K none 0 0,K none 0 0,K none 0 0];have be:av.heap.size≤x.heap.size:=hW.size;have Z:Below x.heap.size x (x.alloc (.cells #[Q G 0,Q G 0,Q G 0,Q G 0,K none 0 0,K none 0 0,K none 0 0,K none 0 0,K none 0 0] 35)):=by go_grown
   replace hW:=hW.trans (Z.mono hW.size);clear Z
   go_wp2
   refine ThenGo.to ⟨⟨⟨_,hW⟩,rfl⟩,?_⟩;generalize aG:x.heap.size=g at*;clear aG;generalize x.alloc (.cells #[Q G 0,Q G 0,Q G 0,Q G 0,K none 0 0,K none 0 0,K none 0 0,K none 0 0,K none 0 0] 35)=x at*
  all_goals first|refine cla 1 (some 76) 37 #[K oa ps.length oc] 3 (by kernel_rfl) ?_|refine opc 1 (some 76) 37 #[K oa ps.length oc] (by kernel_rfl) ?_
  all_goals
   refine(bj.out _ (bt.out _ (b0.trans (hW.mono b0.size))) hl).mono ?_;rintro e x ⟨v1,c1,rfl,f1,t1,_,_,hb⟩;obtain⟨xa,xc,rfl⟩:=t1.shape;try replace Bz:=Bz.below hb
   replace hW:=hW.trans (hb.mono hW.size);clear hb;refine⟨_,rfl,⟨⟨_,hW⟩,rfl⟩,?_⟩;simp only[B,pgE,pjE]
  rotate_right
  refine twa 3 5 3 (by kernel_rfl) ?_ ?_
  rotate_left
  focus
   refine z00 5 _ rfl ?_;have Bz:=H x 35 #[Q G 0,Q G 0,Q G 0,Q G 0,K none 0 0,K none 0 0,K none 0 0,K none 0 0,K none 0 0];have be:av.heap.size≤x.heap.size:=hW.size;have Z:Below x.heap.size x (x.alloc (.cells #[Q G 0,Q G 0,Q G 0,Q G 0,K none 0 0,K none 0 0,K none 0 0,K none 0 0,K none 0 0] 35)):=by go_grown
   replace t1:=t1.below Z;replace hW:=hW.trans (Z.mono hW.size);clear Z
   go_wp2
   refine ThenGo.to ⟨⟨⟨_,hW⟩,rfl⟩,?_⟩;generalize aG:x.heap.size=g at*;clear aG;generalize x.alloc (.cells #[Q G 0,Q G 0,Q G 0,Q G 0,K none 0 0,K none 0 0,K none 0 0,K none 0 0,K none 0 0] 35)=x at*
  all_goals first|refine cla 3 (some 78) 38 #[.agg #[Q G kn,Q G sf,K da done.length dk,K ba base.length bk,K ta au.length tk,K ua ag.length uk,K na aR.length nk]] 2 (by kernel_rfl) ?_|refine opc 3 (some 78) 38 #[.agg #[Q G kn,Q G sf,K da done.length dk,K ba base.length bk,K ta au.length tk,K ua ag.length uk,K na aR.length nk]] (by kernel_rfl) ?_
  all_goals
   refine(bi.out _ (bs.out _ (b0.trans (hW.mono b0.size))) aJ).mono ?_;rintro e x ⟨q1,rfl,e1,o1,_,_,hb⟩;replace t1:=t1.below hb;try replace Bz:=Bz.below hb
   replace hW:=hW.trans (hb.mono hW.size);clear hb;refine⟨_,rfl,⟨⟨_,hW⟩,rfl⟩,?_⟩;simp only[B,pgE,pjE]
  rotate_right
  refine twa 4 5 2 (by kernel_rfl) ?_ ?_
  rotate_left
  focus
   refine z00 5 _ rfl ?_;have Bz:=H x 35 #[Q G 0,Q G 0,Q G 0,Q G 0,K none 0 0,K none 0 0,K none 0 0,K none 0 0,K none 0 0];have be:av.heap.size≤x.heap.size:=hW.size;have Z:Below x.heap.size x (x.alloc (.cells #[Q G 0,Q G 0,Q G 0,Q G 0,K none 0 0,K none 0 0,K none 0 0,K none 0 0,K none 0 0] 35)):=by go_grown
   replace t1:=t1.below Z;replace o1:=repK.own_out (F:=[]) o1 (P Z) (fun _ _=>by simp);replace hW:=hW.trans (Z.mono hW.size);clear Z
   go_wp2
   refine ThenGo.to ⟨⟨⟨_,hW⟩,rfl⟩,?_⟩;generalize aG:x.heap.size=g at*;clear aG;generalize x.alloc (.cells #[Q G 0,Q G 0,Q G 0,Q G 0,K none 0 0,K none 0 0,K none 0 0,K none 0 0,K none 0 0] 35)=x at*
  all_goals first|refine cla 4 (some 79) 30 #[K xa c1.length xc,.agg #[Q G kn,Q G sf,q1.vd,q1.vb,q1.vt,q1.vu,q1.vn]] 1 (by kernel_rfl) ?_|refine opc 4 (some 79) 30 #[K xa c1.length xc,.agg #[Q G kn,Q G sf,q1.vd,q1.vb,q1.vt,q1.vu,q1.vn]] (by kernel_rfl) ?_
  all_goals
   refine(bB.out _ c1 q1 f1 e1 _ (hG.below (b0.trans (hW.mono b0.size))) (hE.below (b0.trans (hW.mono b0.size))) t1 (by rw[bc.out c1 f1];exact hl) o1 (by rw[bC.out q1 e1];exact aJ)).mono ?_;rintro e x ⟨qh,rfl,es,oh,br,gh,hb⟩;have bE:∀k∈repK.foot qh,av.heap.size≤k:=fun k hk=>by have:=gh k hk;have:=hW.size;omega
   try have bd:∀k∈repK.foot qh,k≠g:=fun k hk=>by have:=gh k hk;have:=Bz.lt;omega
   obtain⟨cj,M,cf,L,cr,N,cv,y,cn,X⟩:=qh;obtain⟨ay,az,rfl⟩:∃a c,cj=K a M.length c:=oh.1.shape;obtain⟨aw,ax,rfl⟩:∃a c,cf=K a L.length c:=oh.2.1.shape;obtain⟨aC,aD,rfl⟩:∃a c,cr=K a N.length c:=oh.2.2.1.shape;obtain⟨aE,aF,rfl⟩:∃a c,cv=K a y.length c:=oh.2.2.2.1.shape;obtain⟨aA,aB,rfl⟩:∃a c,cn=K a X.length c:=oh.2.2.2.2.shape;dsimp only;try replace Bz:=Bz.below hb
   replace hW:=hW.trans (hb.mono hW.size);clear hb;refine⟨_,rfl,⟨⟨_,hW⟩,rfl⟩,?_⟩;simp only[B,pgE,pjE]
  rotate_right
  focus
   refine ona 5 1 rfl (by kernel_rfl) ?_;have Bz:=H x 35 #[Q G 0,Q G 0,Q G 0,Q G 0,K none 0 0,K none 0 0,K none 0 0,K none 0 0,K none 0 0];have be:av.heap.size≤x.heap.size:=hW.size;have Z:Below x.heap.size x (x.alloc (.cells #[Q G 0,Q G 0,Q G 0,Q G 0,K none 0 0,K none 0 0,K none 0 0,K none 0 0,K none 0 0] 35)):=by go_grown
   have bd:∀k∈repK.foot (⟨K ay M.length az,M,K aw L.length ax,L,K aC N.length aD,N,K aE y.length aF,y,K aA X.length aB,X⟩:RepQ),k≠x.heap.size:=fun k hk=>by have:=repK.own_lt oh k hk;omega
   replace oh:=repK.own_out (F:=[]) oh (P Z) (fun _ _=>by simp);replace hW:=hW.trans (Z.mono hW.size);clear Z
   go_wp2
   refine ThenGo.to ⟨⟨⟨_,hW⟩,rfl⟩,?_⟩;generalize aG:x.heap.size=g at*;clear aG;generalize x.alloc (.cells #[Q G 0,Q G 0,Q G 0,Q G 0,K none 0 0,K none 0 0,K none 0 0,K none 0 0,K none 0 0] 35)=x at*
  all_goals
   refine ona 6 0 rfl (by kernel_rfl) ?_;have bm:av.heap.size≤g:=by omega
   have Rz:=Bz.row #[Q G D,Q G A,Q G K1,Q G K2,K ay M.length az,K aw L.length ax,K aC N.length aD,K aE y.length aF,K aA X.length aB];have oz:=repK.own_out oh (z0R _ g #[Q G D,Q G A,Q G K1,Q G K2,K ay M.length az,K aw L.length ax,K aC N.length aD,K aE y.length aF,K aA X.length aB]) (fun k hk=>by simp only[List.mem_singleton];exact bd k hk);replace hW:=z0j hW bm #[Q G D,Q G A,Q G K1,Q G K2,K ay M.length az,K aw L.length ax,K aC N.length aD,K aE y.length aF,K aA X.length aB];refine z0s (by kernel_rfl) 35 _ _ rfl _ #[Q G D,Q G A,Q G K1,Q G K2,K ay M.length az,K aw L.length ax,K aC N.length aD,K aE y.length aF,K aA X.length aB] rfl rfl 35 _ Bz q6N rfl (by simp[Value.oneCell']) ?_;refine ThenGo.to ⟨⟨⟨_,hW⟩,rfl⟩,?_⟩;refine z0e (by kernel_rfl) ?_;refine⟨rfl,_,⟨K xa c1.length xc,.agg #[Q G kn,Q G sf,q1.vd,q1.vb,q1.vt,q1.vu,q1.vn],ay,az,M,aw,ax,L,aC,aD,N,aE,aF,y,aA,aB,X,g,rfl,bm,Rz,es,oz,fun k hk=>⟨bE k hk,bd k hk⟩,br,hW⟩,?_⟩;simp only[z1a,B,pgE,pjE];try rfl
 rintro vs cV ⟨v25,v27,ay,az,M,aw,ax,L,aC,aD,N,aE,aF,y,aA,aB,X,gh,rfl,cM,Sh,eh,oh,cG,cS,aH⟩;simp only[z1a,B,pjE];clear k0 k1 k2 k3 k4 k5 k6;replace aI:=aI.trans (aH.mono aI.size);replace A0:=A0.below aH;replace S0:=S0.below aH;replace X0:=X0.below aH;replace Y0:=Y0.below aH;replace os:=repK.own_out (F:=[]) os (P aH) (fun _ _=>by simp);replace b0:=b0.trans (aH.mono b0.size);clear aH;clear bB bj bi;have b5:RepQ.n (⟨K ay M.length az,M,K aw L.length ax,L,K aC N.length aD,N,K aE y.length aF,y,K aA X.length aB,X⟩:RepQ)≤1048576:=bD.out _ eh;have H0:=Sh;clear Sh;obtain⟨p0,p1,p2,p3,p4,p5,p6,p7,p8⟩:=H0.cel9;obtain⟨r0,r1,r2,r3,r4,r5,r6,r7,r8⟩:=S0.cel9
 go_wp2_with fail
 clear p0 p1 p2 p3 p4 p5 p6 p7 p8;clear r0 r1 r2 r3 r4 r5 r6 r7 r8;refine(q2N D A K1 K2 (⟨K ay M.length az,M,K aw L.length ax,L,K aC N.length aD,N,K aE y.length aF,y,K aA X.length aB,X⟩:RepQ) (⟨K ak C.length al,C,K ai z.length aj,z,K ao I.length ap,I,K aq d.length ar,d,K am O.length an,O⟩:RepQ) _ (repK.own_rd oh) (repK.own_rd os) (eh.trans es.symm) b5).mono ?_;rintro e cB ⟨rfl,hb⟩;replace aI:=aI.trans (hb.mono aI.size);replace A0:=A0.below hb;replace S0:=S0.below hb;replace X0:=X0.below hb;replace Y0:=Y0.below hb;replace H0:=H0.below hb;replace os:=repK.own_out (F:=[]) os (P hb) (fun _ _=>by simp);replace oh:=repK.own_out (F:=[]) oh (P hb) (fun _ _=>by simp);replace b0:=b0.trans (hb.mono b0.size);clear hb;obtain⟨p0,p1,p2,p3,p4,p5,p6,p7,p8⟩:=Y0.cel9
 go_wp2_with fail
 clear p0 p1 p2 p3 p4 p5 p6 p7 p8;refine(bH.out cB (bK.out _ aI)).mono ?_;rintro e cW ⟨rfl,hb⟩;replace b0:=b0.trans (hb.mono b0.size);clear hb bH bK aI A0 S0 X0 Y0 H0 os oh
 go_wp2
 go_ret;exact⟨rfl,b0⟩
end Go.Proofs.YtlkpdgjnhkjpjaaGreatDoor

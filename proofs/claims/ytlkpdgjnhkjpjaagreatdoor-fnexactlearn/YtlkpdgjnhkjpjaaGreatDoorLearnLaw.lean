import Derived.Test.YtlkpdgjnhkjpjaaGreatDoorLs11
import Derived.Test.YtlkpdgjnhkjpjaaGreatDoorLi11
import Derived.Test.YtlkpdgjnhkjpjaaGreatDoorSYAT
import Derived.Test.YtlkpdgjnhkjpjaaGreatDoorSYBF
import Derived.Test.YtlkpdgjnhkjpjaaGreatDoorSYBQ
set_option linter.unusedVariables false
set_option linter.unusedSimpArgs false
set_option maxRecDepth 100000
set_option maxHeartbeats 16000000
namespace Go.Proofs.YtlkpdgjnhkjpjaaGreatDoor
open Go.RowKit Go.BigFrame
open InstQ renaming e->Va
open Blk renaming new->Vb
open Act renaming put->Vc
open Out renaming of_below->Vd
open IntKind renaming i64->Sl
open Value renaming int->It,slice->R
theorem q7o{ds:List InstE}{kn sf:Int}{x:RepE}{q:RepQ}(h:q.e=leE ds kn sf x):q.n≤1048576:=by
  unfold leE at h;by_cases h0:leC ds kn sf x=0
  · rw[if_pos h0]at h;have hn:nodF ds kn sf x=0:=by
      by_cases hn:nodF ds kn sf x=0
      · exact hn
      · exact absurd ((q7p hn).1.symm.trans h0) hn
    have hk:kn<(decN ds:Int):=by
      by_cases hk:kn<(decN ds:Int)
      · exact hk
      · exact absurd ((q7q hn hk).1.symm.trans h0) (by decide)
    have hr:=(z3j (q6J hn hk)).2.2.2.1;have hp:=z4h hr;have hz:=z1D hr;have:=z7M (p:=q) (D:=(dlE x (q4G ds kn x)).done) (E:=(dlE x (q4G ds kn x)).tent) (h.trans (q4B hr).symm) hp.2.2.2.1 hp.2.2.2.2.1 (by omega) (by omega);omega
  · rw[if_neg h0]at h;have:=q6w (p:=q) (q:=q0t) h;rw[this];simp[RepQ.n,q0t,nmL]
theorem z8Z(p:RepQ):nmRep p≤3*p.n:=by
  obtain⟨vd,done,vb,base,vt,tent,vu,undos,vn,now⟩:=p;have h1:=z3e done;have h2:=z3e tent;have h3:=z7B undos;simp only[nmRep,RepQ.n];omega
theorem Blk.outs9{w w':World}{b:Nat}{t:TypeId}{cs:Array Value}{F:List Nat}(h:Blk w b t cs)(hU:Out F w w')(hF:b∉F):Blk w' b t cs:=(hU.block b h.lt hF).trans h
theorem q6C:(Tryz.prog.info? 35).map (·.size)=some 9:=by kernel_rfl
theorem q7j(v:Value)(ps:List InstQ)(kn sf:Int)(p:RepQ)(ds:List InstE)(x:RepE)(hd:ps.map Va=ds)(hx:p.e=x)(w:World)(h:instK.Own w v ps)(hl:(ps.length+nmL InstQ.n ps)≤1048576)(hp:repK.own w p)(hl':p.n≤1048576):
    Calls Tryz.prog 19 #[v,.agg #[It Sl kn,It Sl sf,p.vd,p.vb,p.vt,p.vu,p.vn]] w fun e w'=>∃q:RepQ,e=.returned (.agg #[It Sl (leC ds kn sf x),It Sl (leA ds kn sf x),It Sl (leK ds kn sf x),It Sl (leS ds kn sf x),q.vd,q.vb,q.vt,q.vu,q.vn])∧q.e=leE ds kn sf x∧repK.own w' q∧(repK.foot q).Nodup∧(∀k∈repK.foot q,w.heap.size≤k)∧Below w.heap.size w w':=by
  subst hd hx;exact z63 v ps kn sf p w h.at hl hp hl'
theorem q7k(v:Value)(ps:List InstQ)(kn sf:Int)(p:RepQ)(ds:List InstE)(x:RepE)(hd:ps.map Va=ds)(hx:p.e=x)(w:World)(hG:Rul w)(hE:ErrT w)(h:instK.Own w v ps)(hl:(ps.length+nmL InstQ.n ps)≤1048576)(hp:repK.own w p)(hl':p.n≤1048576):
    Calls Tryz.prog 13 #[v,.agg #[It Sl kn,It Sl sf,p.vd,p.vb,p.vt,p.vu,p.vn]] w fun e w'=>∃q:RepQ,e=.returned (.agg #[It Sl (leC ds kn sf x),It Sl (leA ds kn sf x),It Sl (leK ds kn sf x),It Sl (leS ds kn sf x),q.vd,q.vb,q.vt,q.vu,q.vn])∧q.e=leE ds kn sf x∧repK.own w' q∧(repK.foot q).Nodup∧(∀k∈repK.foot q,w.heap.size≤k)∧Below w.heap.size w w':=by
  subst hd hx;exact z53 v ps kn sf p w hG hE h hl hp hl'
theorem q7n(v:Value)(ps:List InstQ)(kn sf:Int)(p:RepQ)(w:World)(hG:Rul w)(hE:ErrT w)(h:instK.At w v ps)(hn:ps.length≤9223372036854775807)(bV:∀p∈ps,InstQ.wf p)(hp:repK.rd w p)(hw:p.wf):
    Calls Tryz.prog 6 #[v,.agg #[It Sl kn,It Sl sf,p.vd,p.vb,p.vt,p.vu,p.vn]] w fun e w'=>e=.returned (.bool true)∧Below w.heap.size w w':=by
  have bh:=fun w h=>z7n v ps 1048576 w h hn bV (by omega) (by omega)
  have a5:=fun c w h h0 h1=>q32 kn sf p c w h hw h0 h1
  have bi:=fun w h hl=>z7p v ps w h hl
  have a6:=fun w h hl=>q33 kn sf p w h hl
  have bI:=fun v qs q (hq:qs.map Va=ps.map Va) (hr:RepQ.e q=p.e) w h hl h' aw=>q7j v qs kn sf q _ _ hq hr w h hl h' aw
  have bD:=fun v qs q (hq:qs.map Va=ps.map Va) (hr:RepQ.e q=p.e) w hG hE h hl h' aw=>q7k v qs kn sf q _ _ hq hr w hG hE h hl h' aw
  have bH:∀q:RepQ,q.e=leE (ps.map Va) kn sf p.e→q.n≤1048576:=fun q hq=>q7o hq
  have bG:∀qs:List InstQ,qs.map Va=ps.map Va→qs.length+nmL InstQ.n qs=ps.length+nmL InstQ.n ps:=fun qs hq=>q5i hq
  have bF:∀q:RepQ,q.e=p.e→q.n=p.n:=fun q hq=>q6w hq
  have bf:=fun v v' (q q':List InstQ) (hq:q.map Va=ps.map Va) (a3:q'.map Va=ps.map Va) w h h' hl=>z7o v v' q q' w h h' (hq.trans a3.symm) hl
  have be:=fun(q q':RepQ) (hq:q.e=p.e) (a3:q'.e=p.e) w h h' hl=>q0m kn sf q q' w h h' (hq.trans a3.symm) hl
  have a4:=fun(w':World) hb=>Kind.At.below (w':=w') h hb
  have aW:=fun(w':World) hb=>repK.rd_below (w':=w') hp hb
  generalize leE (ps.map Va) kn sf p.e=E at*;generalize (leA (ps.map Va) kn sf p.e)=A at*;generalize leK (ps.map Va) kn sf p.e=K1 at*;generalize leS (ps.map Va) kn sf p.e=K2 at*;generalize leC (ps.map Va) kn sf p.e=D at*;generalize ps.map Va=ds at*;generalize bS:ps.length+nmL InstQ.n ps=on at*;generalize bT:p.e=pe at*;generalize bU:p.n=pn at*;obtain⟨vd,done,vb,ae,vt,af,vu,O,vn,aE⟩:=p;obtain⟨da,dk,rfl⟩:∃a c,vd=R a done.length c:=hp.1.shape;obtain⟨ba,bk,rfl⟩:∃a c,vb=R a ae.length c:=hp.2.1.shape;obtain⟨ta,tk,rfl⟩:∃a c,vt=R a af.length c:=hp.2.2.1.shape;obtain⟨ua,uk,rfl⟩:∃a c,vu=R a O.length c:=hp.2.2.2.1.shape;obtain⟨na,nk,rfl⟩:∃a c,vn=R a aE.length c:=hp.2.2.2.2.shape;obtain⟨oa,oc,rfl⟩:=h.shape;dsimp only at a5 a6 aW;have b0:Below w.heap.size w (w.alloc (.cells #[It Sl kn,It Sl sf,R da done.length dk,R ba ae.length bk,R ta af.length tk,R ua O.length uk,R na aE.length nk] 63)):=by go_grown
  have A0:=Vb w 63 #[It Sl kn,It Sl sf,R da done.length dk,R ba ae.length bk,R ta af.length tk,R ua O.length uk,R na aE.length nk];go_enter Tryz.func6,Tryz.ntmps6
  go_wp2_with fail
  generalize w.alloc (.cells #[It Sl kn,It Sl sf,R da done.length dk,R ba ae.length bk,R ta af.length tk,R ua O.length uk,R na aE.length nk] 63)=W at*;refine(bh W (a4 W b0)).mono ?_;rintro e w1 ⟨r,rfl,hr,hb⟩;replace A0:=A0.below hb;replace b0:=b0.trans (hb.mono b0.size);clear hb;clear bh;by_cases bE:r<0
  ·go_wp2
   go_ret;exact⟨rfl,b0⟩
  have hl:((on:Nat):Int)+r=1048576:=hr (by omega);clear hr;obtain⟨p0,p1,p2,p3,p4,p5,p6⟩:=A0.cel7
  go_wp2_with fail
  clear p0 p1 p2 p3 p4 p5 p6;refine(a5 r w1 (aW w1 b0) (by omega) (by omega)).mono ?_;rintro e w2 ⟨r',rfl,hr,hb⟩;replace A0:=A0.below hb;replace b0:=b0.trans (hb.mono b0.size);clear hb;clear a5;by_cases bu:r'<0
  ·go_wp2
   go_ret;exact⟨rfl,b0⟩
  have aw:((pn:Nat):Int)+r'=r:=hr (by omega);clear hr;replace aw:pn≤1048576:=by omega
  replace hl:on≤1048576:=by omega
  go_wp2_with fail
  clear bE bu;have a0:Hid _:=bi;clear bi;have aZ:Hid _:=a6;clear a6;have bA:Hid _:=bI;clear bI;have bj:Hid _:=bD;clear bD;have bm:Hid _:=bH;clear bH;have aT:Hid _:=bG;clear bG;have bl:Hid _:=bF;clear bF;have bx:Hid _:=bf;clear bf;have bJ:Hid _:=be;clear be;have bc:Hid _:=a4;clear a4;have bb:Hid _:=aW;clear aW;clear bS bT bU;obtain⟨k0,k1,k2,k3,k4,k5,k6⟩:=A0.lts7;refine z0T [some 24,some 25,some 26,some 27,some 28,some 6] (fun vs w'=>∃ (a8 a9:Value) (U:Option Addr) (V:Nat) (j:List TxnQ) (Q:Option Addr) (T:Nat) (i:List ItemD) (Z:Option Addr) (aa:Nat) (l:List TxnQ) (ab:Option Addr) (ad:Nat) (d:List USQ) (X:Option Addr) (Y:Nat) (y:List ItemD) (g:Nat),vs=[R oa ps.length oc,a8,.agg #[It Sl kn,It Sl sf,R da done.length dk,R ba ae.length bk,R ta af.length tk,R ua O.length uk,R na aE.length nk],a9,.agg #[It Sl D,It Sl A,It Sl K1,It Sl K2,R U j.length V,R Q i.length T,R Z l.length aa,R ab d.length ad,R X y.length Y],.pointer (some ⟨g,0,none⟩)]∧w2.heap.size≤g∧Blk w' g 35 #[It Sl D,It Sl A,It Sl K1,It Sl K2,R U j.length V,R Q i.length T,R Z l.length aa,R ab d.length ad,R X y.length Y]∧RepQ.e (⟨R U j.length V,j,R Q i.length T,i,R Z l.length aa,l,R ab d.length ad,d,R X y.length Y,y⟩:RepQ)=E∧repK.own w' (⟨R U j.length V,j,R Q i.length T,i,R Z l.length aa,l,R ab d.length ad,d,R X y.length Y,y⟩:RepQ)∧(∀k∈repK.foot (⟨R U j.length V,j,R Q i.length T,i,R Z l.length aa,l,R ab d.length ad,d,R X y.length Y,y⟩:RepQ),w2.heap.size≤k∧k≠g)∧(repK.foot (⟨R U j.length V,j,R Q i.length T,i,R Z l.length aa,l,R ab d.length ad,d,R X y.length Y,y⟩:RepQ)).Nodup∧Below w2.heap.size w2 w') ?_ ?_
  ·have hW:Below w2.heap.size w2 w2.drew:=(Below.refl _ _).drew;have bv:Nonempty (Lat w2):=⟨⟨w2,Below.refl _ _⟩⟩
   refine z0b (S:=fun w'=>∃u:Lat w2,w'=u.val) (by kernel_rfl) ?_;refine sgr [(0,1),(2,1)] 5 (by kernel_rfl) ⟨⟨_,hW⟩,rfl⟩ ?_;simp only[pkE];repeat go_big_quiet_step (fail)
   refine wpQuiet_nil ?_;clear k0 k1 k2 k3 k4 k5 k6;generalize w2.drew=x at hW⊢;refine twa 1 5 4 (by kernel_rfl) ?_ ?_
   rotate_left
   focus
     refine z0L 5 _ rfl ?_;have Bz:=Vb x 35 #[It Sl 0,It Sl 0,It Sl 0,It Sl 0,R none 0 0,R none 0 0,R none 0 0,R none 0 0,R none 0 0];have aV:w2.heap.size≤x.heap.size:=hW.size;have I:Below x.heap.size x (x.alloc (.cells #[It Sl 0,It Sl 0,It Sl 0,It Sl 0,R none 0 0,R none 0 0,R none 0 0,R none 0 0,R none 0 0] 35)):=by go_grown
     replace hW:=hW.trans (I.mono hW.size);clear I
     go_wp2
     refine ThenGo.to ⟨⟨⟨_,hW⟩,rfl⟩,?_⟩;generalize ar:x.heap.size=g at*;clear ar;generalize x.alloc (.cells #[It Sl 0,It Sl 0,It Sl 0,It Sl 0,R none 0 0,R none 0 0,R none 0 0,R none 0 0,R none 0 0] 35)=x at*
   all_goals first|refine cla 1 (some 25) 37 #[R oa ps.length oc] 3 (by kernel_rfl) ?_|refine opc 1 (some 25) 37 #[R oa ps.length oc] (by kernel_rfl) ?_
   all_goals
     refine(a0.out _ (bc.out _ (b0.trans (hW.mono b0.size))) hl).mono ?_;rintro e x ⟨v1,c1,rfl,f1,t1,_,_,hb⟩;obtain⟨xa,xc,rfl⟩:=t1.shape;try replace Bz:=Bz.below hb
     replace hW:=hW.trans (hb.mono hW.size);clear hb;refine⟨_,rfl,⟨⟨_,hW⟩,rfl⟩,?_⟩;simp only[Vc,pgE,pjE]
   rotate_right
   refine twa 3 5 3 (by kernel_rfl) ?_ ?_
   rotate_left
   focus
     refine z0L 5 _ rfl ?_;have Bz:=Vb x 35 #[It Sl 0,It Sl 0,It Sl 0,It Sl 0,R none 0 0,R none 0 0,R none 0 0,R none 0 0,R none 0 0];have aV:w2.heap.size≤x.heap.size:=hW.size;have I:Below x.heap.size x (x.alloc (.cells #[It Sl 0,It Sl 0,It Sl 0,It Sl 0,R none 0 0,R none 0 0,R none 0 0,R none 0 0,R none 0 0] 35)):=by go_grown
     replace t1:=t1.below I;replace hW:=hW.trans (I.mono hW.size);clear I
     go_wp2
     refine ThenGo.to ⟨⟨⟨_,hW⟩,rfl⟩,?_⟩;generalize ar:x.heap.size=g at*;clear ar;generalize x.alloc (.cells #[It Sl 0,It Sl 0,It Sl 0,It Sl 0,R none 0 0,R none 0 0,R none 0 0,R none 0 0,R none 0 0] 35)=x at*
   all_goals first|refine cla 3 (some 27) 38 #[.agg #[It Sl kn,It Sl sf,R da done.length dk,R ba ae.length bk,R ta af.length tk,R ua O.length uk,R na aE.length nk]] 2 (by kernel_rfl) ?_|refine opc 3 (some 27) 38 #[.agg #[It Sl kn,It Sl sf,R da done.length dk,R ba ae.length bk,R ta af.length tk,R ua O.length uk,R na aE.length nk]] (by kernel_rfl) ?_
   all_goals
     refine(aZ.out _ (bb.out _ (b0.trans (hW.mono b0.size))) aw).mono ?_;rintro e x ⟨q1,rfl,e1,o1,_,_,hb⟩;replace t1:=t1.below hb;try replace Bz:=Bz.below hb
     replace hW:=hW.trans (hb.mono hW.size);clear hb;refine⟨_,rfl,⟨⟨_,hW⟩,rfl⟩,?_⟩;simp only[Vc,pgE,pjE]
   rotate_right
   refine twa 4 5 2 (by kernel_rfl) ?_ ?_
   rotate_left
   focus
     refine z0L 5 _ rfl ?_;have Bz:=Vb x 35 #[It Sl 0,It Sl 0,It Sl 0,It Sl 0,R none 0 0,R none 0 0,R none 0 0,R none 0 0,R none 0 0];have aV:w2.heap.size≤x.heap.size:=hW.size;have I:Below x.heap.size x (x.alloc (.cells #[It Sl 0,It Sl 0,It Sl 0,It Sl 0,R none 0 0,R none 0 0,R none 0 0,R none 0 0,R none 0 0] 35)):=by go_grown
     replace t1:=t1.below I;replace o1:=repK.own_out (F:=[]) o1 (Vd I) (fun _ _=>by simp);replace hW:=hW.trans (I.mono hW.size);clear I
     go_wp2
     refine ThenGo.to ⟨⟨⟨_,hW⟩,rfl⟩,?_⟩;generalize ar:x.heap.size=g at*;clear ar;generalize x.alloc (.cells #[It Sl 0,It Sl 0,It Sl 0,It Sl 0,R none 0 0,R none 0 0,R none 0 0,R none 0 0,R none 0 0] 35)=x at*
   all_goals first|refine cla 4 (some 28) 19 #[R xa c1.length xc,.agg #[It Sl kn,It Sl sf,q1.vd,q1.vb,q1.vt,q1.vu,q1.vn]] 1 (by kernel_rfl) ?_|refine opc 4 (some 28) 19 #[R xa c1.length xc,.agg #[It Sl kn,It Sl sf,q1.vd,q1.vb,q1.vt,q1.vu,q1.vn]] (by kernel_rfl) ?_
   all_goals
     refine(bA.out _ c1 q1 f1 e1 _ t1 (by rw[aT.out c1 f1];exact hl) o1 (by rw[bl.out q1 e1];exact aw)).mono ?_;rintro e x ⟨qs,rfl,es,os,a7,gs,hb⟩;have bn:∀k∈repK.foot qs,w2.heap.size≤k:=fun k hk=>by have:=gs k hk;have:=hW.size;omega
     try have aU:∀k∈repK.foot qs,k≠g:=fun k hk=>by have:=gs k hk;have:=Bz.lt;omega
     obtain⟨b5,j,b1,i,cd,l,ch,d,b9,y⟩:=qs;obtain⟨U,V,rfl⟩:∃a c,b5=R a j.length c:=os.1.shape;obtain⟨Q,T,rfl⟩:∃a c,b1=R a i.length c:=os.2.1.shape;obtain⟨Z,aa,rfl⟩:∃a c,cd=R a l.length c:=os.2.2.1.shape;obtain⟨ab,ad,rfl⟩:∃a c,ch=R a d.length c:=os.2.2.2.1.shape;obtain⟨X,Y,rfl⟩:∃a c,b9=R a y.length c:=os.2.2.2.2.shape;dsimp only;try replace Bz:=Bz.below hb
     replace hW:=hW.trans (hb.mono hW.size);clear hb;refine⟨_,rfl,⟨⟨_,hW⟩,rfl⟩,?_⟩;simp only[Vc,pgE,pjE]
   rotate_right
   focus
     refine ona 5 1 rfl (by kernel_rfl) ?_;have Bz:=Vb x 35 #[It Sl 0,It Sl 0,It Sl 0,It Sl 0,R none 0 0,R none 0 0,R none 0 0,R none 0 0,R none 0 0];have aV:w2.heap.size≤x.heap.size:=hW.size;have I:Below x.heap.size x (x.alloc (.cells #[It Sl 0,It Sl 0,It Sl 0,It Sl 0,R none 0 0,R none 0 0,R none 0 0,R none 0 0,R none 0 0] 35)):=by go_grown
     have aU:∀k∈repK.foot (⟨R U j.length V,j,R Q i.length T,i,R Z l.length aa,l,R ab d.length ad,d,R X y.length Y,y⟩:RepQ),k≠x.heap.size:=fun k hk=>by have:=repK.own_lt os k hk;omega
     replace os:=repK.own_out (F:=[]) os (Vd I) (fun _ _=>by simp);replace hW:=hW.trans (I.mono hW.size);clear I
     go_wp2
     refine ThenGo.to ⟨⟨⟨_,hW⟩,rfl⟩,?_⟩;generalize ar:x.heap.size=g at*;clear ar;generalize x.alloc (.cells #[It Sl 0,It Sl 0,It Sl 0,It Sl 0,R none 0 0,R none 0 0,R none 0 0,R none 0 0,R none 0 0] 35)=x at*
   all_goals
     refine ona 6 0 rfl (by kernel_rfl) ?_;have a2:w2.heap.size≤g:=by omega
     have Rz:=Bz.row #[It Sl D,It Sl A,It Sl K1,It Sl K2,R U j.length V,R Q i.length T,R Z l.length aa,R ab d.length ad,R X y.length Y];have oz:=repK.own_out os (z1I _ g #[It Sl D,It Sl A,It Sl K1,It Sl K2,R U j.length V,R Q i.length T,R Z l.length aa,R ab d.length ad,R X y.length Y]) (fun k hk=>by simp only[List.mem_singleton];exact aU k hk);replace hW:=z0j hW a2 #[It Sl D,It Sl A,It Sl K1,It Sl K2,R U j.length V,R Q i.length T,R Z l.length aa,R ab d.length ad,R X y.length Y];refine z0r (by kernel_rfl) 35 _ _ rfl _ #[It Sl D,It Sl A,It Sl K1,It Sl K2,R U j.length V,R Q i.length T,R Z l.length aa,R ab d.length ad,R X y.length Y] rfl rfl 35 _ Bz q6C rfl (by simp[Value.oneCell']) ?_;refine ThenGo.to ⟨⟨⟨_,hW⟩,rfl⟩,?_⟩;refine z0e (by kernel_rfl) ?_;refine⟨rfl,_,⟨R xa c1.length xc,.agg #[It Sl kn,It Sl sf,q1.vd,q1.vb,q1.vt,q1.vu,q1.vn],U,V,j,Q,T,i,Z,aa,l,ab,ad,d,X,Y,y,g,rfl,a2,Rz,es,oz,fun k hk=>⟨bn k hk,aU k hk⟩,a7,hW⟩,?_⟩;simp only[z0P,Vc,pgE,pjE];try rfl
  rintro vs w5 ⟨a8,a9,U,V,j,Q,T,i,Z,aa,l,ab,ad,d,X,Y,y,gs,rfl,bN,Ss,es,os,bo,a7,au⟩;simp only[z0P,Vc,pjE];clear k0 k1 k2 k3 k4 k5 k6;have cu:=A0.lt;replace A0:=A0.below au;replace b0:=b0.trans (au.mono b0.size);clear au;have S0:=Ss;clear Ss a7;have bC:=S0.lt;have cB:=b0.size;have us:∀k∈repK.foot (⟨R U j.length V,j,R Q i.length T,i,R Z l.length aa,l,R ab d.length ad,d,R X y.length Y,y⟩:RepQ),w.heap.size<k∧k<w5.heap.size∧k≠gs:=fun k hk=>⟨by have:=bo k hk;omega,repK.own_lt os k hk,(bo k hk).2⟩
  have cm:w.heap.size<gs∧gs<w5.heap.size:=⟨by omega,bC⟩
  have cx:RepQ.n (⟨R U j.length V,j,R Q i.length T,i,R Z l.length aa,l,R ab d.length ad,d,R X y.length Y,y⟩:RepQ)≤1048576:=bm.out _ es;clear bo bA bN
  go_wp2_with fail
  refine(a0.out _ (bc.out _ b0) hl).mono ?_;rintro e w6 ⟨v2,c2,rfl,f2,t2,bW,bB,hb⟩;have cr:=hb.size;have ut:∀k∈instK.fp v2 c2,w5.heap.size≤k∧k<w6.heap.size:=fun k hk=>⟨bB k hk,t2.lt k hk⟩
  obtain⟨ya,yc,rfl⟩:=t2.shape;clear bB;replace A0:=A0.below hb;replace S0:=S0.below hb;replace os:=repK.own_out (F:=[]) os (Vd hb) (fun _ _=>by simp);replace b0:=b0.trans (hb.mono b0.size);clear hb;obtain⟨p0,p1,p2,p3,p4,p5,p6⟩:=A0.cel7
  go_wp2_with fail
  clear p0 p1 p2 p3 p4 p5 p6;refine(aZ.out _ (bb.out _ b0) aw).mono ?_;rintro e w7 ⟨q2,rfl,e2,o2,n2,g2,hb⟩;have cs:=hb.size;have u2:∀k∈repK.foot q2,w6.heap.size≤k∧k<w7.heap.size:=fun k hk=>⟨g2 k hk,repK.own_lt o2 k hk⟩
  replace A0:=A0.below hb;replace S0:=S0.below hb;replace os:=repK.own_out (F:=[]) os (Vd hb) (fun _ _=>by simp);replace t2:=t2.below hb;replace b0:=b0.trans (hb.mono b0.size);clear hb;clear g2;have bs:RepQ.n q2≤1048576:=by rw[bl.out q2 e2];exact aw
  have br:=fun v qs hq w hG hE h hl h'=>bj.out v qs q2 hq e2 w hG hE h hl h' bs
  have bp:=fun q' a3 w h h'=>bJ.out q2 q' e2 a3 w h h' bs
  obtain⟨b2,L,bX,K,ca,M,ce,H,b6,P⟩:=q2;obtain⟨aL,aM,rfl⟩:∃a c,b2=R a L.length c:=o2.1.shape;obtain⟨aJ,aK,rfl⟩:∃a c,bX=R a K.length c:=o2.2.1.shape;obtain⟨aP,aQ,rfl⟩:∃a c,ca=R a M.length c:=o2.2.2.1.shape;obtain⟨aR,aS,rfl⟩:∃a c,ce=R a H.length c:=o2.2.2.2.1.shape;obtain⟨aN,aO,rfl⟩:∃a c,b6=R a P.length c:=o2.2.2.2.2.shape;dsimp only at br bp;have bz:Hid _:=br;have bw:Hid _:=bp;clear br bp;have X0:=Vb w7 31 #[It Sl kn,It Sl sf,R aL L.length aM,R aJ K.length aK,R aP M.length aQ,R aR H.length aS,R aN P.length aO];have hb:Below w7.heap.size w7 (w7.alloc (.cells #[It Sl kn,It Sl sf,R aL L.length aM,R aJ K.length aK,R aP M.length aQ,R aR H.length aS,R aN P.length aO] 31)):=by go_grown
  replace A0:=A0.below hb;replace S0:=S0.below hb;replace os:=repK.own_out (F:=[]) os (Vd hb) (fun _ _=>by simp);replace o2:=repK.own_out (F:=[]) o2 (Vd hb) (fun _ _=>by simp);replace t2:=t2.below hb;replace b0:=b0.trans (hb.mono b0.size);clear hb;obtain⟨p0,p1,p2,p3,p4,p5,p6⟩:=X0.cel7
  go_wp2_with fail
  clear p0 p1 p2 p3 p4 p5 p6;generalize w7.alloc (.cells #[It Sl kn,It Sl sf,R aL L.length aM,R aJ K.length aK,R aP M.length aQ,R aR H.length aS,R aN P.length aO] 31)=W7 at*;have cv:=X0.lt;refine(bz.out _ c2 f2 _ (hG.below b0) (hE.below b0) t2 (by rw[aT.out c2 f2];exact hl) o2).mono ?_;rintro e w8 ⟨qi,rfl,ei,oi,ni,gi,hb⟩;have ct:=hb.size;have ui:∀k∈repK.foot qi,W7.heap.size≤k∧k<w8.heap.size:=fun k hk=>⟨gi k hk,repK.own_lt oi k hk⟩
  replace A0:=A0.below hb;replace S0:=S0.below hb;replace X0:=X0.below hb;replace os:=repK.own_out (F:=[]) os (Vd hb) (fun _ _=>by simp);replace o2:=repK.own_out (F:=[]) o2 (Vd hb) (fun _ _=>by simp);replace t2:=t2.below hb;replace b0:=b0.trans (hb.mono b0.size);clear hb;clear gi bz;have bd:RepQ.n qi≤1048576:=bm.out qi ei;obtain⟨b4,B,bZ,z,cc,C,cg,m,b8,J⟩:=qi;obtain⟨az,aA,rfl⟩:∃a c,b4=R a B.length c:=oi.1.shape;obtain⟨ax,ay,rfl⟩:∃a c,bZ=R a z.length c:=oi.2.1.shape;obtain⟨aF,aG,rfl⟩:∃a c,cc=R a C.length c:=oi.2.2.1.shape;obtain⟨aH,aI,rfl⟩:∃a c,cg=R a m.length c:=oi.2.2.2.1.shape;obtain⟨aC,aD,rfl⟩:∃a c,b8=R a J.length c:=oi.2.2.2.2.shape;have Y0:=Vb w8 35 #[It Sl D,It Sl A,It Sl K1,It Sl K2,R az B.length aA,R ax z.length ay,R aF C.length aG,R aH m.length aI,R aC J.length aD];have hb:Below w8.heap.size w8 (w8.alloc (.cells #[It Sl D,It Sl A,It Sl K1,It Sl K2,R az B.length aA,R ax z.length ay,R aF C.length aG,R aH m.length aI,R aC J.length aD] 35)):=by go_grown
  replace A0:=A0.below hb;replace S0:=S0.below hb;replace X0:=X0.below hb;replace os:=repK.own_out (F:=[]) os (Vd hb) (fun _ _=>by simp);replace o2:=repK.own_out (F:=[]) o2 (Vd hb) (fun _ _=>by simp);replace oi:=repK.own_out (F:=[]) oi (Vd hb) (fun _ _=>by simp);replace t2:=t2.below hb;replace b0:=b0.trans (hb.mono b0.size);clear hb;obtain⟨r0,r1,r2,r3,r4,r5,r6,r7,r8⟩:=S0.cel9
  go_wp2_with fail
  clear r0 r1 r2 r3 r4 r5 r6 r7 r8;generalize w8.alloc (.cells #[It Sl D,It Sl A,It Sl K1,It Sl K2,R az B.length aA,R ax z.length ay,R aF C.length aG,R aH m.length aI,R aC J.length aD] 35)=W8 at*;refine(q2G D A K1 K2 (⟨R az B.length aA,B,R ax z.length ay,z,R aF C.length aG,C,R aH m.length aI,m,R aC J.length aD,J⟩:RepQ) (⟨R U j.length V,j,R Q i.length T,i,R Z l.length aa,l,R ab d.length ad,d,R X y.length Y,y⟩:RepQ) _ (repK.own_rd oi) (repK.own_rd os) (ei.trans es.symm) bd).mono ?_;rintro e w9 ⟨rfl,hb⟩;replace A0:=A0.below hb;replace S0:=S0.below hb;replace X0:=X0.below hb;replace Y0:=Y0.below hb;replace os:=repK.own_out (F:=[]) os (Vd hb) (fun _ _=>by simp);replace o2:=repK.own_out (F:=[]) o2 (Vd hb) (fun _ _=>by simp);replace oi:=repK.own_out (F:=[]) oi (Vd hb) (fun _ _=>by simp);replace t2:=t2.below hb;replace b0:=b0.trans (hb.mono b0.size);clear hb
  go_wp2_with fail
  refine(a0.out _ (bc.out _ b0) hl).mono ?_;rintro e cD ⟨v3,c3,rfl,f3,t3,_,_,hb⟩;obtain⟨za,zc,rfl⟩:=t3.shape;replace A0:=A0.below hb;replace S0:=S0.below hb;replace X0:=X0.below hb;replace Y0:=Y0.below hb;replace os:=repK.own_out (F:=[]) os (Vd hb) (fun _ _=>by simp);replace o2:=repK.own_out (F:=[]) o2 (Vd hb) (fun _ _=>by simp);replace oi:=repK.own_out (F:=[]) oi (Vd hb) (fun _ _=>by simp);replace t2:=t2.below hb;replace b0:=b0.trans (hb.mono b0.size);clear hb
  go_wp2_with fail
  refine(bx.out _ _ c2 c3 f2 f3 _ t2.at t3.at (by rw[aT.out c2 f2];exact hl)).mono ?_;rintro e aX ⟨rfl,hb⟩;clear t3 f3;replace A0:=A0.below hb;replace S0:=S0.below hb;replace X0:=X0.below hb;replace Y0:=Y0.below hb;replace os:=repK.own_out (F:=[]) os (Vd hb) (fun _ _=>by simp);replace o2:=repK.own_out (F:=[]) o2 (Vd hb) (fun _ _=>by simp);replace oi:=repK.own_out (F:=[]) oi (Vd hb) (fun _ _=>by simp);replace t2:=t2.below hb;replace b0:=b0.trans (hb.mono b0.size);clear hb;clear bx
  go_wp2_with fail
  have hW:Below aX.heap.size aX aX.drew:=(Below.refl _ _).drew;have bv:Nonempty (Lat aX):=⟨⟨aX,Below.refl _ _⟩⟩
  obtain⟨k0,k1,k2,k3,k4,k5,k6⟩:=A0.lts7;obtain⟨l0,l1,l2,l3,l4,l5,l6⟩:=X0.lts7;refine z0b (S:=fun w'=>∃u:Lat aX,w'=u.val) (by kernel_rfl) ?_;refine sgr [(0,2)] 3 (by kernel_rfl) ⟨⟨_,hW⟩,rfl⟩ ?_;simp only[pkE];repeat go_big_quiet_step (fail)
  refine wpQuiet_nil ?_;refine cla 2 (some 47) 38 #[.agg #[It Sl kn,It Sl sf,R da done.length dk,R ba ae.length bk,R ta af.length tk,R ua O.length uk,R na aE.length nk]] 2 (by kernel_rfl) ?_;refine(aZ.out _ (bb.out _ (b0.trans (hW.mono b0.size))) aw).mono ?_;rintro e w9 ⟨q9,rfl,e9,o9,_,_,a1⟩;replace hW:=hW.trans (a1.mono hW.size);clear a1;refine⟨_,rfl,⟨⟨_,hW⟩,rfl⟩,?_⟩;simp only[Vc,pjE];refine cla 3 (some 48) 41 #[.agg #[It Sl kn,It Sl sf,R aL L.length aM,R aJ K.length aK,R aP M.length aQ,R aR H.length aS,R aN P.length aO],.agg #[It Sl kn,It Sl sf,q9.vd,q9.vb,q9.vt,q9.vu,q9.vn]] 1 (by kernel_rfl) ?_;refine(bw.out q9 e9 _ (repK.rd_below (repK.own_rd o2) hW) (repK.own_rd o9)).mono ?_;rintro e ci ⟨rfl,a1⟩;replace hW:=hW.trans (a1.mono hW.size);clear a1;refine⟨_,rfl,⟨⟨_,hW⟩,rfl⟩,?_⟩;simp only[Vc,pjE];refine sgr [(4,1)] 0 (by kernel_rfl) ⟨⟨_,hW⟩,rfl⟩ ?_;simp only[pkE];repeat go_big_quiet_step (fail)
  refine wpQuiet_nil ?_;refine z0e (by kernel_rfl) ?_;clear bv k0 k1 k2 k3 k4 k5 k6 l0 l1 l2 l3 l4 l5 l6;clear o9 e9 bw;replace A0:=A0.below hW;replace S0:=S0.below hW;replace X0:=X0.below hW;replace Y0:=Y0.below hW;replace os:=repK.own_out (F:=[]) os (Vd hW) (fun _ _=>by simp);replace o2:=repK.own_out (F:=[]) o2 (Vd hW) (fun _ _=>by simp);replace oi:=repK.own_out (F:=[]) oi (Vd hW) (fun _ _=>by simp);replace t2:=t2.below hW;replace b0:=b0.trans (hW.mono b0.size);clear hW
  go_wp2_with fail
  have bR:=q2q c2;refine(z5N (R ya c2.length yc) c2 1 ci t2 bW (by rw[aT.out c2 f2];exact hl) (by omega) (by have:=aT.out c2 f2;omega)).mono ?_;rintro e cj ⟨rfl,_,hU⟩;have N:∀k,k∈instK.fp (R ya c2.length yc) c2→w5.heap.size≤k∧k<w6.heap.size:=ut;replace A0:=A0.outs9 hU (fun hk=>by have:=N _ hk;omega);replace S0:=S0.outs9 hU (fun hk=>by have:=N _ hk;omega);replace X0:=X0.outs9 hU (fun hk=>by have:=N _ hk;omega);replace Y0:=Y0.outs9 hU (fun hk=>by have:=N _ hk;omega);replace os:=repK.own_out os hU (fun k hk aB=>by have:=N _ aB;have:=us k hk;omega);replace o2:=repK.own_out o2 hU (fun k hk aB=>by have:=N _ aB;have:=u2 k hk;omega);replace oi:=repK.own_out oi hU (fun k hk aB=>by have:=N _ aB;have:=ui k hk;omega);replace b0:=Out.keep b0 hU b0.size (fun k hk=>by have:=N _ hk;omega);clear N hU;clear t2;generalize bK:(nmL nmInsS c2:Int)=M1 at*;have cy:0≤M1∧M1≤4194304:=by have:=aT.out c2 f2;omega
  clear bR bK f2;obtain⟨p0,p1,p2,p3,p4,p5,p6⟩:=X0.cel7
  go_wp2_with fail
  clear p0 p1 p2 p3 p4 p5 p6;have bP:=z8Z (⟨R aL L.length aM,L,R aJ K.length aK,K,R aP M.length aQ,M,R aR H.length aS,H,R aN P.length aO,P⟩:RepQ);refine(z6S kn sf (⟨R aL L.length aM,L,R aJ K.length aK,K,R aP M.length aQ,M,R aR H.length aS,H,R aN P.length aO,P⟩:RepQ) (1+M1) cj o2 n2 bs (by omega) (by omega)).mono ?_;rintro e cE ⟨rfl,_,hU⟩;have N:∀k,k∈repK.foot (⟨R aL L.length aM,L,R aJ K.length aK,K,R aP M.length aQ,M,R aR H.length aS,H,R aN P.length aO,P⟩:RepQ)→w6.heap.size≤k∧k<w7.heap.size:=u2;replace A0:=A0.outs9 hU (fun hk=>by have:=N _ hk;omega);replace S0:=S0.outs9 hU (fun hk=>by have:=N _ hk;omega);replace X0:=X0.outs9 hU (fun hk=>by have:=N _ hk;omega);replace Y0:=Y0.outs9 hU (fun hk=>by have:=N _ hk;omega);replace os:=repK.own_out os hU (fun k hk aB=>by have:=N _ aB;have:=us k hk;omega);replace oi:=repK.own_out oi hU (fun k hk aB=>by have:=N _ aB;have:=ui k hk;omega);replace b0:=Out.keep b0 hU b0.size (fun k hk=>by have:=N _ hk;omega);clear N hU;clear o2;generalize bL:(nmRep (⟨R aL L.length aM,L,R aJ K.length aK,K,R aP M.length aQ,M,R aR H.length aS,H,R aN P.length aO,P⟩:RepQ):Int)=M2 at*;have cn:0≤M2∧M2≤4194304:=by omega
  have cp:¬(1+M1+M2<0):=by omega
  clear bP bL;obtain⟨p0,p1,p2,p3,p4,p5,p6,p7,p8⟩:=Y0.cel9;obtain⟨r0,r1,r2,r3,r4,r5,r6,r7,r8⟩:=S0.cel9
  go_wp2_with fail
  clear p0 p1 p2 p3 p4 p5 p6 p7 p8;clear r0 r1 r2 r3 r4 r5 r6 r7 r8;refine(q2G D A K1 K2 (⟨R az B.length aA,B,R ax z.length ay,z,R aF C.length aG,C,R aH m.length aI,m,R aC J.length aD,J⟩:RepQ) (⟨R U j.length V,j,R Q i.length T,i,R Z l.length aa,l,R ab d.length ad,d,R X y.length Y,y⟩:RepQ) _ (repK.own_rd oi) (repK.own_rd os) (ei.trans es.symm) bd).mono ?_;rintro e ck ⟨rfl,hb⟩;replace A0:=A0.below hb;replace S0:=S0.below hb;replace X0:=X0.below hb;replace Y0:=Y0.below hb;replace os:=repK.own_out (F:=[]) os (Vd hb) (fun _ _=>by simp);replace oi:=repK.own_out (F:=[]) oi (Vd hb) (fun _ _=>by simp);replace b0:=b0.trans (hb.mono b0.size);clear hb;obtain⟨p0,p1,p2,p3,p4,p5,p6,p7,p8⟩:=Y0.cel9
  go_wp2_with fail
  clear p0 p1 p2 p3 p4 p5 p6 p7 p8;have bQ:=z8Z (⟨R az B.length aA,B,R ax z.length ay,z,R aF C.length aG,C,R aH m.length aI,m,R aC J.length aD,J⟩:RepQ);refine(q34 D A K1 K2 (⟨R az B.length aA,B,R ax z.length ay,z,R aF C.length aG,C,R aH m.length aI,m,R aC J.length aD,J⟩:RepQ) 1 ck oi ni bd (by omega) (by omega)).mono ?_;rintro e aY ⟨rfl,om,hU⟩;have N:∀k,k∈repK.foot (⟨R az B.length aA,B,R ax z.length ay,z,R aF C.length aG,C,R aH m.length aI,m,R aC J.length aD,J⟩:RepQ)→W7.heap.size≤k∧k<w8.heap.size:=ui;replace A0:=A0.outs9 hU (fun hk=>by have:=N _ hk;omega);replace S0:=S0.outs9 hU (fun hk=>by have:=N _ hk;omega);replace X0:=X0.outs9 hU (fun hk=>by have:=N _ hk;omega);replace Y0:=Y0.outs9 hU (fun hk=>by have:=N _ hk;omega);replace os:=repK.own_out os hU (fun k hk aB=>by have:=N _ aB;have:=us k hk;omega);replace b0:=Out.keep b0 hU b0.size (fun k hk=>by have:=N _ hk;omega);clear N hU;clear oi;have rm:=repK.own_rd om;clear om;have bt:Hid (∀w',Below aY.heap.size aY w'→repK.rd w' (mkRep 1 (⟨R az B.length aA,B,R ax z.length ay,z,R aF C.length aG,C,R aH m.length aI,m,R aC J.length aD,J⟩:RepQ))):=fun w' hb=>repK.rd_below rm hb
  have av:Below aY.heap.size aY aY:=Below.refl _ _;have bg:=fun w h=>q35 D A K1 K2 (⟨R az B.length aA,B,R ax z.length ay,z,R aF C.length aG,C,R aH m.length aI,m,R aC J.length aD,J⟩:RepQ) 1 w h bd (by omega) (by omega)
  have bq:Hid _:=bg;clear bg;generalize bM:(nmRep (⟨R az B.length aA,B,R ax z.length ay,z,R aF C.length aG,C,R aH m.length aI,m,R aC J.length aD,J⟩:RepQ):Int)=Mi at*;have co:0≤Mi∧Mi≤4194304:=by omega
  have cA:¬(1+Mi<0):=by omega
  have cz:((1+Mi) !=(1+Mi))=false:=by simp
  clear bQ bM rm;obtain⟨p0,p1,p2,p3,p4,p5,p6,p7,p8⟩:=Y0.cel9
  go_wp2_with fail
  clear p0 p1 p2 p3 p4 p5 p6 p7 p8;refine(bq.out aY (bt.out _ av)).mono ?_;rintro e ag ⟨rfl,hb⟩;replace av:=av.trans (hb.mono av.size);replace A0:=A0.below hb;replace S0:=S0.below hb;replace X0:=X0.below hb;replace Y0:=Y0.below hb;replace os:=repK.own_out (F:=[]) os (Vd hb) (fun _ _=>by simp);replace b0:=b0.trans (hb.mono b0.size);clear hb
  go_wp2_with fail
  obtain⟨k0,k1,k2,k3,k4,k5,k6⟩:=A0.lts7;refine z0T [some 75,some 76,some 77,some 78,some 79,some 13] (fun vs w'=>∃ (a8 a9:Value) (aj:Option Addr) (ak:Nat) (s:List TxnQ) (ah:Option Addr) (ai:Nat) (o:List ItemD) (an:Option Addr) (ao:Nat) (t:List TxnQ) (ap:Option Addr) (aq:Nat) (f:List USQ) (al:Option Addr) (am:Nat) (G:List ItemD) (g:Nat),vs=[R oa ps.length oc,a8,.agg #[It Sl kn,It Sl sf,R da done.length dk,R ba ae.length bk,R ta af.length tk,R ua O.length uk,R na aE.length nk],a9,.agg #[It Sl D,It Sl A,It Sl K1,It Sl K2,R aj s.length ak,R ah o.length ai,R an t.length ao,R ap f.length aq,R al G.length am],.pointer (some ⟨g,0,none⟩)]∧ag.heap.size≤g∧Blk w' g 35 #[It Sl D,It Sl A,It Sl K1,It Sl K2,R aj s.length ak,R ah o.length ai,R an t.length ao,R ap f.length aq,R al G.length am]∧RepQ.e (⟨R aj s.length ak,s,R ah o.length ai,o,R an t.length ao,t,R ap f.length aq,f,R al G.length am,G⟩:RepQ)=E∧repK.own w' (⟨R aj s.length ak,s,R ah o.length ai,o,R an t.length ao,t,R ap f.length aq,f,R al G.length am,G⟩:RepQ)∧(∀k∈repK.foot (⟨R aj s.length ak,s,R ah o.length ai,o,R an t.length ao,t,R ap f.length aq,f,R al G.length am,G⟩:RepQ),ag.heap.size≤k∧k≠g)∧(repK.foot (⟨R aj s.length ak,s,R ah o.length ai,o,R an t.length ao,t,R ap f.length aq,f,R al G.length am,G⟩:RepQ)).Nodup∧Below ag.heap.size ag w') ?_ ?_
  ·have hW:Below ag.heap.size ag ag.drew:=(Below.refl _ _).drew;have bv:Nonempty (Lat ag):=⟨⟨ag,Below.refl _ _⟩⟩
   refine z0b (S:=fun w'=>∃u:Lat ag,w'=u.val) (by kernel_rfl) ?_;refine sgr [(0,1),(2,1)] 5 (by kernel_rfl) ⟨⟨_,hW⟩,rfl⟩ ?_;simp only[pkE];repeat go_big_quiet_step (fail)
   refine wpQuiet_nil ?_;clear k0 k1 k2 k3 k4 k5 k6;generalize ag.drew=x at hW⊢;refine twa 1 5 4 (by kernel_rfl) ?_ ?_
   rotate_left
   focus
     refine z0L 5 _ rfl ?_;have Bz:=Vb x 35 #[It Sl 0,It Sl 0,It Sl 0,It Sl 0,R none 0 0,R none 0 0,R none 0 0,R none 0 0,R none 0 0];have aV:ag.heap.size≤x.heap.size:=hW.size;have I:Below x.heap.size x (x.alloc (.cells #[It Sl 0,It Sl 0,It Sl 0,It Sl 0,R none 0 0,R none 0 0,R none 0 0,R none 0 0,R none 0 0] 35)):=by go_grown
     replace hW:=hW.trans (I.mono hW.size);clear I
     go_wp2
     refine ThenGo.to ⟨⟨⟨_,hW⟩,rfl⟩,?_⟩;generalize ar:x.heap.size=g at*;clear ar;generalize x.alloc (.cells #[It Sl 0,It Sl 0,It Sl 0,It Sl 0,R none 0 0,R none 0 0,R none 0 0,R none 0 0,R none 0 0] 35)=x at*
   all_goals first|refine cla 1 (some 76) 37 #[R oa ps.length oc] 3 (by kernel_rfl) ?_|refine opc 1 (some 76) 37 #[R oa ps.length oc] (by kernel_rfl) ?_
   all_goals
     refine(a0.out _ (bc.out _ (b0.trans (hW.mono b0.size))) hl).mono ?_;rintro e x ⟨v1,c1,rfl,f1,t1,_,_,hb⟩;obtain⟨xa,xc,rfl⟩:=t1.shape;try replace Bz:=Bz.below hb
     replace hW:=hW.trans (hb.mono hW.size);clear hb;refine⟨_,rfl,⟨⟨_,hW⟩,rfl⟩,?_⟩;simp only[Vc,pgE,pjE]
   rotate_right
   refine twa 3 5 3 (by kernel_rfl) ?_ ?_
   rotate_left
   focus
     refine z0L 5 _ rfl ?_;have Bz:=Vb x 35 #[It Sl 0,It Sl 0,It Sl 0,It Sl 0,R none 0 0,R none 0 0,R none 0 0,R none 0 0,R none 0 0];have aV:ag.heap.size≤x.heap.size:=hW.size;have I:Below x.heap.size x (x.alloc (.cells #[It Sl 0,It Sl 0,It Sl 0,It Sl 0,R none 0 0,R none 0 0,R none 0 0,R none 0 0,R none 0 0] 35)):=by go_grown
     replace t1:=t1.below I;replace hW:=hW.trans (I.mono hW.size);clear I
     go_wp2
     refine ThenGo.to ⟨⟨⟨_,hW⟩,rfl⟩,?_⟩;generalize ar:x.heap.size=g at*;clear ar;generalize x.alloc (.cells #[It Sl 0,It Sl 0,It Sl 0,It Sl 0,R none 0 0,R none 0 0,R none 0 0,R none 0 0,R none 0 0] 35)=x at*
   all_goals first|refine cla 3 (some 78) 38 #[.agg #[It Sl kn,It Sl sf,R da done.length dk,R ba ae.length bk,R ta af.length tk,R ua O.length uk,R na aE.length nk]] 2 (by kernel_rfl) ?_|refine opc 3 (some 78) 38 #[.agg #[It Sl kn,It Sl sf,R da done.length dk,R ba ae.length bk,R ta af.length tk,R ua O.length uk,R na aE.length nk]] (by kernel_rfl) ?_
   all_goals
     refine(aZ.out _ (bb.out _ (b0.trans (hW.mono b0.size))) aw).mono ?_;rintro e x ⟨q1,rfl,e1,o1,_,_,hb⟩;replace t1:=t1.below hb;try replace Bz:=Bz.below hb
     replace hW:=hW.trans (hb.mono hW.size);clear hb;refine⟨_,rfl,⟨⟨_,hW⟩,rfl⟩,?_⟩;simp only[Vc,pgE,pjE]
   rotate_right
   refine twa 4 5 2 (by kernel_rfl) ?_ ?_
   rotate_left
   focus
     refine z0L 5 _ rfl ?_;have Bz:=Vb x 35 #[It Sl 0,It Sl 0,It Sl 0,It Sl 0,R none 0 0,R none 0 0,R none 0 0,R none 0 0,R none 0 0];have aV:ag.heap.size≤x.heap.size:=hW.size;have I:Below x.heap.size x (x.alloc (.cells #[It Sl 0,It Sl 0,It Sl 0,It Sl 0,R none 0 0,R none 0 0,R none 0 0,R none 0 0,R none 0 0] 35)):=by go_grown
     replace t1:=t1.below I;replace o1:=repK.own_out (F:=[]) o1 (Vd I) (fun _ _=>by simp);replace hW:=hW.trans (I.mono hW.size);clear I
     go_wp2
     refine ThenGo.to ⟨⟨⟨_,hW⟩,rfl⟩,?_⟩;generalize ar:x.heap.size=g at*;clear ar;generalize x.alloc (.cells #[It Sl 0,It Sl 0,It Sl 0,It Sl 0,R none 0 0,R none 0 0,R none 0 0,R none 0 0,R none 0 0] 35)=x at*
   all_goals first|refine cla 4 (some 79) 13 #[R xa c1.length xc,.agg #[It Sl kn,It Sl sf,q1.vd,q1.vb,q1.vt,q1.vu,q1.vn]] 1 (by kernel_rfl) ?_|refine opc 4 (some 79) 13 #[R xa c1.length xc,.agg #[It Sl kn,It Sl sf,q1.vd,q1.vb,q1.vt,q1.vu,q1.vn]] (by kernel_rfl) ?_
   all_goals
     refine(bj.out _ c1 q1 f1 e1 _ (hG.below (b0.trans (hW.mono b0.size))) (hE.below (b0.trans (hW.mono b0.size))) t1 (by rw[aT.out c1 f1];exact hl) o1 (by rw[bl.out q1 e1];exact aw)).mono ?_;rintro e x ⟨qh,rfl,es,oh,a7,gh,hb⟩;have bn:∀k∈repK.foot qh,ag.heap.size≤k:=fun k hk=>by have:=gh k hk;have:=hW.size;omega
     try have aU:∀k∈repK.foot qh,k≠g:=fun k hk=>by have:=gh k hk;have:=Bz.lt;omega
     obtain⟨b3,s,bY,o,cb,t,cf,f,b7,G⟩:=qh;obtain⟨aj,ak,rfl⟩:∃a c,b3=R a s.length c:=oh.1.shape;obtain⟨ah,ai,rfl⟩:∃a c,bY=R a o.length c:=oh.2.1.shape;obtain⟨an,ao,rfl⟩:∃a c,cb=R a t.length c:=oh.2.2.1.shape;obtain⟨ap,aq,rfl⟩:∃a c,cf=R a f.length c:=oh.2.2.2.1.shape;obtain⟨al,am,rfl⟩:∃a c,b7=R a G.length c:=oh.2.2.2.2.shape;dsimp only;try replace Bz:=Bz.below hb
     replace hW:=hW.trans (hb.mono hW.size);clear hb;refine⟨_,rfl,⟨⟨_,hW⟩,rfl⟩,?_⟩;simp only[Vc,pgE,pjE]
   rotate_right
   focus
     refine ona 5 1 rfl (by kernel_rfl) ?_;have Bz:=Vb x 35 #[It Sl 0,It Sl 0,It Sl 0,It Sl 0,R none 0 0,R none 0 0,R none 0 0,R none 0 0,R none 0 0];have aV:ag.heap.size≤x.heap.size:=hW.size;have I:Below x.heap.size x (x.alloc (.cells #[It Sl 0,It Sl 0,It Sl 0,It Sl 0,R none 0 0,R none 0 0,R none 0 0,R none 0 0,R none 0 0] 35)):=by go_grown
     have aU:∀k∈repK.foot (⟨R aj s.length ak,s,R ah o.length ai,o,R an t.length ao,t,R ap f.length aq,f,R al G.length am,G⟩:RepQ),k≠x.heap.size:=fun k hk=>by have:=repK.own_lt oh k hk;omega
     replace oh:=repK.own_out (F:=[]) oh (Vd I) (fun _ _=>by simp);replace hW:=hW.trans (I.mono hW.size);clear I
     go_wp2
     refine ThenGo.to ⟨⟨⟨_,hW⟩,rfl⟩,?_⟩;generalize ar:x.heap.size=g at*;clear ar;generalize x.alloc (.cells #[It Sl 0,It Sl 0,It Sl 0,It Sl 0,R none 0 0,R none 0 0,R none 0 0,R none 0 0,R none 0 0] 35)=x at*
   all_goals
     refine ona 6 0 rfl (by kernel_rfl) ?_;have a2:ag.heap.size≤g:=by omega
     have Rz:=Bz.row #[It Sl D,It Sl A,It Sl K1,It Sl K2,R aj s.length ak,R ah o.length ai,R an t.length ao,R ap f.length aq,R al G.length am];have oz:=repK.own_out oh (z1I _ g #[It Sl D,It Sl A,It Sl K1,It Sl K2,R aj s.length ak,R ah o.length ai,R an t.length ao,R ap f.length aq,R al G.length am]) (fun k hk=>by simp only[List.mem_singleton];exact aU k hk);replace hW:=z0j hW a2 #[It Sl D,It Sl A,It Sl K1,It Sl K2,R aj s.length ak,R ah o.length ai,R an t.length ao,R ap f.length aq,R al G.length am];refine z0r (by kernel_rfl) 35 _ _ rfl _ #[It Sl D,It Sl A,It Sl K1,It Sl K2,R aj s.length ak,R ah o.length ai,R an t.length ao,R ap f.length aq,R al G.length am] rfl rfl 35 _ Bz q6C rfl (by simp[Value.oneCell']) ?_;refine ThenGo.to ⟨⟨⟨_,hW⟩,rfl⟩,?_⟩;refine z0e (by kernel_rfl) ?_;refine⟨rfl,_,⟨R xa c1.length xc,.agg #[It Sl kn,It Sl sf,q1.vd,q1.vb,q1.vt,q1.vu,q1.vn],aj,ak,s,ah,ai,o,an,ao,t,ap,aq,f,al,am,G,g,rfl,a2,Rz,es,oz,fun k hk=>⟨bn k hk,aU k hk⟩,a7,hW⟩,?_⟩;simp only[z0P,Vc,pgE,pjE];try rfl
  rintro vs cF ⟨a8,a9,aj,ak,s,ah,ai,o,an,ao,t,ap,aq,f,al,am,G,gh,rfl,cw,Sh,eh,oh,cq,cC,au⟩;simp only[z0P,Vc,pjE];clear k0 k1 k2 k3 k4 k5 k6;replace av:=av.trans (au.mono av.size);replace A0:=A0.below au;replace S0:=S0.below au;replace X0:=X0.below au;replace Y0:=Y0.below au;replace os:=repK.own_out (F:=[]) os (Vd au) (fun _ _=>by simp);replace b0:=b0.trans (au.mono b0.size);clear au;clear bj a0 aZ;have bO:RepQ.n (⟨R aj s.length ak,s,R ah o.length ai,o,R an t.length ao,t,R ap f.length aq,f,R al G.length am,G⟩:RepQ)≤1048576:=bm.out _ eh;have H0:=Sh;clear Sh;obtain⟨p0,p1,p2,p3,p4,p5,p6,p7,p8⟩:=H0.cel9;obtain⟨r0,r1,r2,r3,r4,r5,r6,r7,r8⟩:=S0.cel9
  go_wp2_with fail
  clear p0 p1 p2 p3 p4 p5 p6 p7 p8;clear r0 r1 r2 r3 r4 r5 r6 r7 r8;refine(q2G D A K1 K2 (⟨R aj s.length ak,s,R ah o.length ai,o,R an t.length ao,t,R ap f.length aq,f,R al G.length am,G⟩:RepQ) (⟨R U j.length V,j,R Q i.length T,i,R Z l.length aa,l,R ab d.length ad,d,R X y.length Y,y⟩:RepQ) _ (repK.own_rd oh) (repK.own_rd os) (eh.trans es.symm) bO).mono ?_;rintro e cl ⟨rfl,hb⟩;replace av:=av.trans (hb.mono av.size);replace A0:=A0.below hb;replace S0:=S0.below hb;replace X0:=X0.below hb;replace Y0:=Y0.below hb;replace H0:=H0.below hb;replace os:=repK.own_out (F:=[]) os (Vd hb) (fun _ _=>by simp);replace oh:=repK.own_out (F:=[]) oh (Vd hb) (fun _ _=>by simp);replace b0:=b0.trans (hb.mono b0.size);clear hb;obtain⟨p0,p1,p2,p3,p4,p5,p6,p7,p8⟩:=Y0.cel9
  go_wp2_with fail
  clear p0 p1 p2 p3 p4 p5 p6 p7 p8;refine(bq.out cl (bt.out _ av)).mono ?_;rintro e cG ⟨rfl,hb⟩;replace b0:=b0.trans (hb.mono b0.size);clear hb bq bt av A0 S0 X0 Y0 H0 os oh
  go_wp2
  go_ret;exact⟨rfl,b0⟩
end Go.Proofs.YtlkpdgjnhkjpjaaGreatDoor

/- Texts joined,with what the laws reach alone. -/
import Derived.Test.YtlkpdgjnhkjpjaaGreatDoorSCBI
import Derived.Test.YtlkpdgjnhkjpjaaGreatDoorSCAU
set_option linter.unusedVariables false
set_option linter.unusedSimpArgs false
set_option maxRecDepth 100000
set_option maxHeartbeats 16000000
namespace Go.Proofs.YtlkpdgjnhkjpjaaGreatDoor
open Go.RowKit Go.BigFrame
theorem cr_n{ds:List InstE}{kn sf:Int}{x:RepE}{kp:Int}{q:RepQ}(h:q.e=crE ds kn sf x kp):q.n≤1048576:=by
 unfold crE at h;by_cases h0:crC ds kn sf x kp=0
 ·rw[if_pos h0]at h;have hn:nodF ds kn sf x=0:=by
   by_cases hn:nodF ds kn sf x=0
   ·exact hn
   ·unfold crC at h0;rw[if_neg hn]at h0;exact absurd h0 hn
  have hor:=(z2U hn).1;have hl:=z9w hor (crM kn sf kp).toNat;have hF:=q3i (z2d hor) (crM kn sf kp).toNat;have:=z7w (p:=q) (D:=defL ds (crM kn sf kp).toNat) (E:=[]) (h.trans (q3X hF hl).symm) hF (by simp) (by omega) (by simp);omega
 ·rw[if_neg h0]at h;have:=q4K (p:=q) (q:=q3W) h;rw[this];simp[RepQ.n,q3W,nmL]
theorem z8I(p:RepQ):nmRep p≤3*p.n:=by
 obtain⟨vd,done,vb,base,vt,tent,vu,undos,vn,now⟩:=p;have h1:=z2R done;have h2:=z2R tent;have h3:=z7j undos;simp only[nmRep,RepQ.n];omega
theorem Blk.outs9{w w':World}{b:Nat}{t:TypeId}{cs:Array Value}{F:List Nat}(h:Blk w b t cs)(hU:Out F w w')(hF:b∉F):Blk w' b t cs:=(hU.block b h.lt hF).trans h
theorem q5M:(Tryz.prog.info? 35).map (·.size)=some 9:=by kernel_rfl
theorem z5P(v:Value)(ps:List InstQ)(kn sf:Int)(p:RepQ)(kp:Int)(ds:List InstE)(x:RepE)(hd:ps.map InstQ.e=ds)(hx:p.e=x)(w:World)(h:instK.Own w v ps)(hl:(ps.length+nmL InstQ.n ps)≤1048576)(hp:repK.own w p)(hl':p.n≤1048576):
  Calls Tryz.prog 28 #[v,.agg #[.int .i64 kn,.int .i64 sf,p.vd,p.vb,p.vt,p.vu,p.vn],.int .i64 kp] w fun e w'=>∃q:RepQ,e=.returned (.agg #[.int .i64 (crC ds kn sf x kp),.int .i64 0,.int .i64 (crK ds kn sf x kp),.int .i64 (crK ds kn sf x kp),q.vd,q.vb,q.vt,q.vu,q.vn])∧q.e=crE ds kn sf x kp∧repK.own w' q∧(repK.foot q).Nodup∧(∀k∈repK.foot q,w.heap.size≤k)∧Below w.heap.size w w':=by
 subst hd hx;exact z4f v ps kn sf p kp w h.at hl hp hl'
theorem z5Q(v:Value)(ps:List InstQ)(kn sf:Int)(p:RepQ)(kp:Int)(ds:List InstE)(x:RepE)(hd:ps.map InstQ.e=ds)(hx:p.e=x)(w:World)(hG:Rul w)(hE:ErrT w)(h:instK.Own w v ps)(hl:(ps.length+nmL InstQ.n ps)≤1048576)(hp:repK.own w p)(hl':p.n≤1048576):
  Calls Tryz.prog 24 #[v,.agg #[.int .i64 kn,.int .i64 sf,p.vd,p.vb,p.vt,p.vu,p.vn],.int .i64 kp] w fun e w'=>∃q:RepQ,e=.returned (.agg #[.int .i64 (crC ds kn sf x kp),.int .i64 0,.int .i64 (crK ds kn sf x kp),.int .i64 (crK ds kn sf x kp),q.vd,q.vb,q.vt,q.vu,q.vn])∧q.e=crE ds kn sf x kp∧repK.own w' q∧(repK.foot q).Nodup∧(∀k∈repK.foot q,w.heap.size≤k)∧Below w.heap.size w w':=by
 subst hd hx;exact z4e v ps kn sf p kp w hG hE h hl hp hl'
theorem q3Y(v:Value)(ps:List InstQ)(kn sf:Int)(p:RepQ)(kp:Int)(w:World)(hG:Rul w)(hE:ErrT w)(h:instK.At w v ps)(hn:ps.length≤9223372036854775807)(cd:∀p∈ps,InstQ.wf p)(hp:repK.rd w p)(hw:p.wf):
  Calls Tryz.prog 9 #[v,.agg #[.int .i64 kn,.int .i64 sf,p.vd,p.vb,p.vt,p.vu,p.vn],.int .i64 kp] w fun e w'=>e=.returned (.bool true)∧Below w.heap.size w w':=by
 have bz:=fun w h=>z6Z v ps 1048576 w h hn cd (by omega) (by omega)
 have bp:=fun c w h h0 h1=>q3k kn sf p c w h hw h0 h1
 have bA:=fun w h hl=>z61 v ps w h hl
 have bq:=fun w h hl=>q3l kn sf p w h hl
 have bO:=fun v qs q (hq:qs.map InstQ.e=ps.map InstQ.e) (hr:RepQ.e q=p.e) w h hl h' aJ=>z5P v qs kn sf q kp _ _ hq hr w h hl h' aJ
 have bJ:=fun v qs q (hq:qs.map InstQ.e=ps.map InstQ.e) (hr:RepQ.e q=p.e) w hG hE h hl h' aJ=>z5Q v qs kn sf q kp _ _ hq hr w hG hE h hl h' aJ
 have bY:∀q:RepQ,q.e=crE (ps.map InstQ.e) kn sf p.e kp→q.n≤1048576:=fun q hq=>cr_n hq
 have bX:∀qs:List InstQ,qs.map InstQ.e=ps.map InstQ.e→qs.length+nmL InstQ.n qs=ps.length+nmL InstQ.n ps:=fun qs hq=>q4B hq
 have bW:∀q:RepQ,q.e=p.e→q.n=p.n:=fun q hq=>q4K hq
 have bw:=fun v v' (q q':List InstQ) (hq:q.map InstQ.e=ps.map InstQ.e) (bn:q'.map InstQ.e=ps.map InstQ.e) w h h' hl=>z60 v v' q q' w h h' (hq.trans bn.symm) hl
 have bv:=fun(q q':RepQ) (hq:q.e=p.e) (bn:q'.e=p.e) w h h' hl=>z9U kn sf q q' w h h' (hq.trans bn.symm) hl
 have bo:=fun(w':World) hb=>Kind.At.below (w':=w') h hb
 have bf:=fun(w':World) hb=>repK.rd_below (w':=w') hp hb
 generalize crE (ps.map InstQ.e) kn sf p.e kp=E at*;generalize b4:(0:Int)=A at bO bJ;clear b4;generalize crK (ps.map InstQ.e) kn sf p.e kp=K1 at*;generalize crC (ps.map InstQ.e) kn sf p.e kp=D at*;generalize ps.map InstQ.e=ds at*;generalize ca:ps.length+nmL InstQ.n ps=on at*;generalize cb:p.e=pe at*;generalize cc:p.n=pn at*;obtain⟨vd,done,vb,base,vt,au,vu,ag,vn,aR⟩:=p;obtain⟨da,dk,rfl⟩:∃a c,vd=.slice a done.length c:=hp.1.shape;obtain⟨ba,bk,rfl⟩:∃a c,vb=.slice a base.length c:=hp.2.1.shape;obtain⟨ta,tk,rfl⟩:∃a c,vt=.slice a au.length c:=hp.2.2.1.shape;obtain⟨ua,uk,rfl⟩:∃a c,vu=.slice a ag.length c:=hp.2.2.2.1.shape;obtain⟨na,nk,rfl⟩:∃a c,vn=.slice a aR.length c:=hp.2.2.2.2.shape;obtain⟨oa,oc,rfl⟩:=h.shape;dsimp only at bp bq bf;have b0:Below w.heap.size w (w.alloc (.cells #[.int .i64 kn,.int .i64 sf,.slice da done.length dk,.slice ba base.length bk,.slice ta au.length tk,.slice ua ag.length uk,.slice na aR.length nk] 63)):=by go_grown
 have A0:=Blk.new w 63 #[.int .i64 kn,.int .i64 sf,.slice da done.length dk,.slice ba base.length bk,.slice ta au.length tk,.slice ua ag.length uk,.slice na aR.length nk];go_enter Tryz.func9,Tryz.ntmps9
 go_wp2_with fail
 generalize w.alloc (.cells #[.int .i64 kn,.int .i64 sf,.slice da done.length dk,.slice ba base.length bk,.slice ta au.length tk,.slice ua ag.length uk,.slice na aR.length nk] 63)=W at*;refine(bz W (bo W b0)).mono ?_;rintro e w1 ⟨r,rfl,hr,hb⟩;replace A0:=A0.below hb;replace b0:=b0.trans (hb.mono b0.size);clear hb;clear bz;by_cases bV:r<0
 ·go_wp2
  go_ret;exact⟨rfl,b0⟩
 have hl:((on:Nat):Int)+r=1048576:=hr (by omega);clear hr;obtain⟨p0,p1,p2,p3,p4,p5,p6⟩:=A0.cel7
 go_wp2_with fail
 clear p0 p1 p2 p3 p4 p5 p6;refine(bp r w1 (bf w1 b0) (by omega) (by omega)).mono ?_;rintro e w2 ⟨r',rfl,hr,hb⟩;replace A0:=A0.below hb;replace b0:=b0.trans (hb.mono b0.size);clear hb;clear bp;by_cases bM:r'<0
 ·go_wp2
  go_ret;exact⟨rfl,b0⟩
 have aJ:((pn:Nat):Int)+r'=r:=hr (by omega);clear hr;replace aJ:pn≤1048576:=by omega
 replace hl:on≤1048576:=by omega
 go_wp2_with fail
 clear bV bM;have bj:Hid _:=bA;clear bA;have bi:Hid _:=bq;clear bq;have bS:Hid _:=bO;clear bO;have bB:Hid _:=bJ;clear bJ;have bD:Hid _:=bY;clear bY;have bc:Hid _:=bX;clear bX;have bC:Hid _:=bW;clear bW;have bQ:Hid _:=bw;clear bw;have bZ:Hid _:=bv;clear bv;have bt:Hid _:=bo;clear bo;have bs:Hid _:=bf;clear bf;clear ca cb cc;obtain⟨k0,k1,k2,k3,k4,k5,k6⟩:=A0.lts7;refine z05 [some 26,some 27,some 28,some 29,some 30,some 31,some 8] (fun vs w'=>∃ (v25 v27:Value) (ak:Option Addr) (al:Nat) (C:List TxnQ) (ai:Option Addr) (aj:Nat) (z:List ItemD) (ao:Option Addr) (ap:Nat) (I:List TxnQ) (aq:Option Addr) (ar:Nat) (d:List USQ) (am:Option Addr) (an:Nat) (O:List ItemD) (g:Nat),vs=[.slice oa ps.length oc,v25,.agg #[.int .i64 kn,.int .i64 sf,.slice da done.length dk,.slice ba base.length bk,.slice ta au.length tk,.slice ua ag.length uk,.slice na aR.length nk],v27,.int .i64 kp,.agg #[.int .i64 D,.int .i64 A,.int .i64 K1,.int .i64 K1,.slice ak C.length al,.slice ai z.length aj,.slice ao I.length ap,.slice aq d.length ar,.slice am O.length an],.pointer (some ⟨g,0,none⟩)]∧w2.heap.size≤g∧Blk w' g 35 #[.int .i64 D,.int .i64 A,.int .i64 K1,.int .i64 K1,.slice ak C.length al,.slice ai z.length aj,.slice ao I.length ap,.slice aq d.length ar,.slice am O.length an]∧RepQ.e (⟨.slice ak C.length al,C,.slice ai z.length aj,z,.slice ao I.length ap,I,.slice aq d.length ar,d,.slice am O.length an,O⟩:RepQ)=E∧repK.own w' (⟨.slice ak C.length al,C,.slice ai z.length aj,z,.slice ao I.length ap,I,.slice aq d.length ar,d,.slice am O.length an,O⟩:RepQ)∧(∀k∈repK.foot (⟨.slice ak C.length al,C,.slice ai z.length aj,z,.slice ao I.length ap,I,.slice aq d.length ar,d,.slice am O.length an,O⟩:RepQ),w2.heap.size≤k∧k≠g)∧(repK.foot (⟨.slice ak C.length al,C,.slice ai z.length aj,z,.slice ao I.length ap,I,.slice aq d.length ar,d,.slice am O.length an,O⟩:RepQ)).Nodup∧Below w2.heap.size w2 w') ?_ ?_
 ·have hW:Below w2.heap.size w2 w2.drew:=(Below.refl _ _).drew;have bN:Nonempty (Lat w2):=⟨⟨w2,Below.refl _ _⟩⟩
  refine z0e (S:=fun w'=>∃u:Lat w2,w'=u.val) (by kernel_rfl) ?_;refine sgr [(0,1),(2,1),(4,1)] 5 (by kernel_rfl) ⟨⟨_,hW⟩,rfl⟩ ?_;simp only[pkE];repeat go_big_quiet_step (fail)
  refine wpQuiet_nil ?_;clear k0 k1 k2 k3 k4 k5 k6;generalize w2.drew=x at hW⊢;refine twa 1 6 4 (by kernel_rfl) ?_ ?_
  rotate_left
  focus
   refine z1c 6 _ rfl ?_;have Bz:=Blk.new x 35 #[.int .i64 0,.int .i64 0,.int .i64 0,.int .i64 0,.slice none 0 0,.slice none 0 0,.slice none 0 0,.slice none 0 0,.slice none 0 0];have be:w2.heap.size≤x.heap.size:=hW.size;have Z:Below x.heap.size x (x.alloc (.cells #[.int .i64 0,.int .i64 0,.int .i64 0,.int .i64 0,.slice none 0 0,.slice none 0 0,.slice none 0 0,.slice none 0 0,.slice none 0 0] 35)):=by go_grown
   replace hW:=hW.trans (Z.mono hW.size);clear Z
   go_wp2
   refine ThenGo.to ⟨⟨⟨_,hW⟩,rfl⟩,?_⟩;generalize aG:x.heap.size=g at*;clear aG;generalize x.alloc (.cells #[.int .i64 0,.int .i64 0,.int .i64 0,.int .i64 0,.slice none 0 0,.slice none 0 0,.slice none 0 0,.slice none 0 0,.slice none 0 0] 35)=x at*
  all_goals first|refine cla 1 (some 27) 37 #[.slice oa ps.length oc] 3 (by kernel_rfl) ?_|refine opc 1 (some 27) 37 #[.slice oa ps.length oc] (by kernel_rfl) ?_
  all_goals
   refine(bj.out _ (bt.out _ (b0.trans (hW.mono b0.size))) hl).mono ?_;rintro e x ⟨v1,c1,rfl,f1,t1,_,_,hb⟩;obtain⟨xa,xc,rfl⟩:=t1.shape;try replace Bz:=Bz.below hb
   replace hW:=hW.trans (hb.mono hW.size);clear hb;refine⟨_,rfl,⟨⟨_,hW⟩,rfl⟩,?_⟩;simp only[Act.put,pgE,pjE]
  rotate_right
  refine twa 3 6 3 (by kernel_rfl) ?_ ?_
  rotate_left
  focus
   refine z1c 6 _ rfl ?_;have Bz:=Blk.new x 35 #[.int .i64 0,.int .i64 0,.int .i64 0,.int .i64 0,.slice none 0 0,.slice none 0 0,.slice none 0 0,.slice none 0 0,.slice none 0 0];have be:w2.heap.size≤x.heap.size:=hW.size;have Z:Below x.heap.size x (x.alloc (.cells #[.int .i64 0,.int .i64 0,.int .i64 0,.int .i64 0,.slice none 0 0,.slice none 0 0,.slice none 0 0,.slice none 0 0,.slice none 0 0] 35)):=by go_grown
   replace t1:=t1.below Z;replace hW:=hW.trans (Z.mono hW.size);clear Z
   go_wp2
   refine ThenGo.to ⟨⟨⟨_,hW⟩,rfl⟩,?_⟩;generalize aG:x.heap.size=g at*;clear aG;generalize x.alloc (.cells #[.int .i64 0,.int .i64 0,.int .i64 0,.int .i64 0,.slice none 0 0,.slice none 0 0,.slice none 0 0,.slice none 0 0,.slice none 0 0] 35)=x at*
  all_goals first|refine cla 3 (some 29) 38 #[.agg #[.int .i64 kn,.int .i64 sf,.slice da done.length dk,.slice ba base.length bk,.slice ta au.length tk,.slice ua ag.length uk,.slice na aR.length nk]] 2 (by kernel_rfl) ?_|refine opc 3 (some 29) 38 #[.agg #[.int .i64 kn,.int .i64 sf,.slice da done.length dk,.slice ba base.length bk,.slice ta au.length tk,.slice ua ag.length uk,.slice na aR.length nk]] (by kernel_rfl) ?_
  all_goals
   refine(bi.out _ (bs.out _ (b0.trans (hW.mono b0.size))) aJ).mono ?_;rintro e x ⟨q1,rfl,e1,o1,_,_,hb⟩;replace t1:=t1.below hb;try replace Bz:=Bz.below hb
   replace hW:=hW.trans (hb.mono hW.size);clear hb;refine⟨_,rfl,⟨⟨_,hW⟩,rfl⟩,?_⟩;simp only[Act.put,pgE,pjE]
  rotate_right
  refine twa 5 6 2 (by kernel_rfl) ?_ ?_
  rotate_left
  focus
   refine z1c 6 _ rfl ?_;have Bz:=Blk.new x 35 #[.int .i64 0,.int .i64 0,.int .i64 0,.int .i64 0,.slice none 0 0,.slice none 0 0,.slice none 0 0,.slice none 0 0,.slice none 0 0];have be:w2.heap.size≤x.heap.size:=hW.size;have Z:Below x.heap.size x (x.alloc (.cells #[.int .i64 0,.int .i64 0,.int .i64 0,.int .i64 0,.slice none 0 0,.slice none 0 0,.slice none 0 0,.slice none 0 0,.slice none 0 0] 35)):=by go_grown
   replace t1:=t1.below Z;replace o1:=repK.own_out (F:=[]) o1 (Out.of_below Z) (fun _ _=>by simp);replace hW:=hW.trans (Z.mono hW.size);clear Z
   go_wp2
   refine ThenGo.to ⟨⟨⟨_,hW⟩,rfl⟩,?_⟩;generalize aG:x.heap.size=g at*;clear aG;generalize x.alloc (.cells #[.int .i64 0,.int .i64 0,.int .i64 0,.int .i64 0,.slice none 0 0,.slice none 0 0,.slice none 0 0,.slice none 0 0,.slice none 0 0] 35)=x at*
  all_goals first|refine cla 5 (some 31) 28 #[.slice xa c1.length xc,.agg #[.int .i64 kn,.int .i64 sf,q1.vd,q1.vb,q1.vt,q1.vu,q1.vn],.int .i64 kp] 1 (by kernel_rfl) ?_|refine opc 5 (some 31) 28 #[.slice xa c1.length xc,.agg #[.int .i64 kn,.int .i64 sf,q1.vd,q1.vb,q1.vt,q1.vu,q1.vn],.int .i64 kp] (by kernel_rfl) ?_
  all_goals
   refine(bS.out _ c1 q1 f1 e1 _ t1 (by rw[bc.out c1 f1];exact hl) o1 (by rw[bC.out q1 e1];exact aJ)).mono ?_;rintro e x ⟨qs,rfl,es,os,br,gs,hb⟩;have bE:∀k∈repK.foot qs,w2.heap.size≤k:=fun k hk=>by have:=gs k hk;have:=hW.size;omega
   try have bd:∀k∈repK.foot qs,k≠g:=fun k hk=>by have:=gs k hk;have:=Bz.lt;omega
   obtain⟨cm,C,ci,z,cu,I,cy,d,cq,O⟩:=qs;obtain⟨ak,al,rfl⟩:∃a c,cm=.slice a C.length c:=os.1.shape;obtain⟨ai,aj,rfl⟩:∃a c,ci=.slice a z.length c:=os.2.1.shape;obtain⟨ao,ap,rfl⟩:∃a c,cu=.slice a I.length c:=os.2.2.1.shape;obtain⟨aq,ar,rfl⟩:∃a c,cy=.slice a d.length c:=os.2.2.2.1.shape;obtain⟨am,an,rfl⟩:∃a c,cq=.slice a O.length c:=os.2.2.2.2.shape;dsimp only;try replace Bz:=Bz.below hb
   replace hW:=hW.trans (hb.mono hW.size);clear hb;refine⟨_,rfl,⟨⟨_,hW⟩,rfl⟩,?_⟩;simp only[Act.put,pgE,pjE]
  rotate_right
  focus
   refine ona 6 1 rfl (by kernel_rfl) ?_;have Bz:=Blk.new x 35 #[.int .i64 0,.int .i64 0,.int .i64 0,.int .i64 0,.slice none 0 0,.slice none 0 0,.slice none 0 0,.slice none 0 0,.slice none 0 0];have be:w2.heap.size≤x.heap.size:=hW.size;have Z:Below x.heap.size x (x.alloc (.cells #[.int .i64 0,.int .i64 0,.int .i64 0,.int .i64 0,.slice none 0 0,.slice none 0 0,.slice none 0 0,.slice none 0 0,.slice none 0 0] 35)):=by go_grown
   have bd:∀k∈repK.foot (⟨.slice ak C.length al,C,.slice ai z.length aj,z,.slice ao I.length ap,I,.slice aq d.length ar,d,.slice am O.length an,O⟩:RepQ),k≠x.heap.size:=fun k hk=>by have:=repK.own_lt os k hk;omega
   replace os:=repK.own_out (F:=[]) os (Out.of_below Z) (fun _ _=>by simp);replace hW:=hW.trans (Z.mono hW.size);clear Z
   go_wp2
   refine ThenGo.to ⟨⟨⟨_,hW⟩,rfl⟩,?_⟩;generalize aG:x.heap.size=g at*;clear aG;generalize x.alloc (.cells #[.int .i64 0,.int .i64 0,.int .i64 0,.int .i64 0,.slice none 0 0,.slice none 0 0,.slice none 0 0,.slice none 0 0,.slice none 0 0] 35)=x at*
  all_goals
   refine ona 7 0 rfl (by kernel_rfl) ?_;have bm:w2.heap.size≤g:=by omega
   have Rz:=Bz.row #[.int .i64 D,.int .i64 A,.int .i64 K1,.int .i64 K1,.slice ak C.length al,.slice ai z.length aj,.slice ao I.length ap,.slice aq d.length ar,.slice am O.length an];have oz:=repK.own_out os (z1w _ g #[.int .i64 D,.int .i64 A,.int .i64 K1,.int .i64 K1,.slice ak C.length al,.slice ai z.length aj,.slice ao I.length ap,.slice aq d.length ar,.slice am O.length an]) (fun k hk=>by simp only[List.mem_singleton];exact bd k hk);replace hW:=z0p hW bm #[.int .i64 D,.int .i64 A,.int .i64 K1,.int .i64 K1,.slice ak C.length al,.slice ai z.length aj,.slice ao I.length ap,.slice aq d.length ar,.slice am O.length an];refine z0K (by kernel_rfl) 35 _ _ rfl _ #[.int .i64 D,.int .i64 A,.int .i64 K1,.int .i64 K1,.slice ak C.length al,.slice ai z.length aj,.slice ao I.length ap,.slice aq d.length ar,.slice am O.length an] rfl rfl 35 _ Bz q5M rfl (by simp[Value.oneCell']) ?_;refine ThenGo.to ⟨⟨⟨_,hW⟩,rfl⟩,?_⟩;refine z0i (by kernel_rfl) ?_;refine⟨rfl,_,⟨.slice xa c1.length xc,.agg #[.int .i64 kn,.int .i64 sf,q1.vd,q1.vb,q1.vt,q1.vu,q1.vn],ak,al,C,ai,aj,z,ao,ap,I,aq,ar,d,am,an,O,g,rfl,bm,Rz,es,oz,fun k hk=>⟨bE k hk,bd k hk⟩,br,hW⟩,?_⟩;simp only[z1n,Act.put,pgE,pjE];try rfl
 rintro vs w5 ⟨v25,v27,ak,al,C,ai,aj,z,ao,ap,I,aq,ar,d,am,an,O,gs,rfl,b5,Ss,es,os,bF,br,aH⟩;simp only[z1n,Act.put,pjE];clear k0 k1 k2 k3 k4 k5 k6;have cL:=A0.lt;replace A0:=A0.below aH;replace b0:=b0.trans (aH.mono b0.size);clear aH;have S0:=Ss;clear Ss br;have bU:=S0.lt;have cS:=b0.size;have us:∀k∈repK.foot (⟨.slice ak C.length al,C,.slice ai z.length aj,z,.slice ao I.length ap,I,.slice aq d.length ar,d,.slice am O.length an,O⟩:RepQ),w.heap.size<k∧k<w5.heap.size∧k≠gs:=fun k hk=>⟨by have:=bF k hk;omega,repK.own_lt os k hk,(bF k hk).2⟩
 have cD:w.heap.size<gs∧gs<w5.heap.size:=⟨by omega,bU⟩
 have cO:RepQ.n (⟨.slice ak C.length al,C,.slice ai z.length aj,z,.slice ao I.length ap,I,.slice aq d.length ar,d,.slice am O.length an,O⟩:RepQ)≤1048576:=bD.out _ es;clear bF bS b5
 go_wp2_with fail
 refine(bj.out _ (bt.out _ b0) hl).mono ?_;rintro e w6 ⟨v2,c2,rfl,f2,t2,ce,bT,hb⟩;have cI:=hb.size;have ut:∀k∈instK.fp v2 c2,w5.heap.size≤k∧k<w6.heap.size:=fun k hk=>⟨bT k hk,t2.lt k hk⟩
 obtain⟨ya,yc,rfl⟩:=t2.shape;clear bT;replace A0:=A0.below hb;replace S0:=S0.below hb;replace os:=repK.own_out (F:=[]) os (Out.of_below hb) (fun _ _=>by simp);replace b0:=b0.trans (hb.mono b0.size);clear hb;obtain⟨p0,p1,p2,p3,p4,p5,p6⟩:=A0.cel7
 go_wp2_with fail
 clear p0 p1 p2 p3 p4 p5 p6;refine(bi.out _ (bs.out _ b0) aJ).mono ?_;rintro e w7 ⟨q2,rfl,e2,o2,n2,g2,hb⟩;have cJ:=hb.size;have u2:∀k∈repK.foot q2,w6.heap.size≤k∧k<w7.heap.size:=fun k hk=>⟨g2 k hk,repK.own_lt o2 k hk⟩
 replace A0:=A0.below hb;replace S0:=S0.below hb;replace os:=repK.own_out (F:=[]) os (Out.of_below hb) (fun _ _=>by simp);replace t2:=t2.below hb;replace b0:=b0.trans (hb.mono b0.size);clear hb;clear g2;have bK:RepQ.n q2≤1048576:=by rw[bC.out q2 e2];exact aJ
 have bI:=fun v qs hq w hG hE h hl h'=>bB.out v qs q2 hq e2 w hG hE h hl h' bK
 have bG:=fun q' bn w h h'=>bZ.out q2 q' e2 bn w h h' bK
 obtain⟨cj,ad,cf,ab,cr,ae,cv,Y,cn,ah⟩:=q2;obtain⟨aY,aZ,rfl⟩:∃a c,cj=.slice a ad.length c:=o2.1.shape;obtain⟨aW,aX,rfl⟩:∃a c,cf=.slice a ab.length c:=o2.2.1.shape;obtain⟨a6,a7,rfl⟩:∃a c,cr=.slice a ae.length c:=o2.2.2.1.shape;obtain⟨a8,bb,rfl⟩:∃a c,cv=.slice a Y.length c:=o2.2.2.2.1.shape;obtain⟨a1,a2,rfl⟩:∃a c,cn=.slice a ah.length c:=o2.2.2.2.2.shape;dsimp only at bI bG;have bR:Hid _:=bI;have bP:Hid _:=bG;clear bI bG;have X0:=Blk.new w7 31 #[.int .i64 kn,.int .i64 sf,.slice aY ad.length aZ,.slice aW ab.length aX,.slice a6 ae.length a7,.slice a8 Y.length bb,.slice a1 ah.length a2];have hb:Below w7.heap.size w7 (w7.alloc (.cells #[.int .i64 kn,.int .i64 sf,.slice aY ad.length aZ,.slice aW ab.length aX,.slice a6 ae.length a7,.slice a8 Y.length bb,.slice a1 ah.length a2] 31)):=by go_grown
 replace A0:=A0.below hb;replace S0:=S0.below hb;replace os:=repK.own_out (F:=[]) os (Out.of_below hb) (fun _ _=>by simp);replace o2:=repK.own_out (F:=[]) o2 (Out.of_below hb) (fun _ _=>by simp);replace t2:=t2.below hb;replace b0:=b0.trans (hb.mono b0.size);clear hb;obtain⟨p0,p1,p2,p3,p4,p5,p6⟩:=X0.cel7
 go_wp2_with fail
 clear p0 p1 p2 p3 p4 p5 p6;generalize w7.alloc (.cells #[.int .i64 kn,.int .i64 sf,.slice aY ad.length aZ,.slice aW ab.length aX,.slice a6 ae.length a7,.slice a8 Y.length bb,.slice a1 ah.length a2] 31)=W7 at*;have cM:=X0.lt;refine(bR.out _ c2 f2 _ (hG.below b0) (hE.below b0) t2 (by rw[bc.out c2 f2];exact hl) o2).mono ?_;rintro e w8 ⟨qi,rfl,ei,oi,ni,gi,hb⟩;have cK:=hb.size;have ui:∀k∈repK.foot qi,W7.heap.size≤k∧k<w8.heap.size:=fun k hk=>⟨gi k hk,repK.own_lt oi k hk⟩
 replace A0:=A0.below hb;replace S0:=S0.below hb;replace X0:=X0.below hb;replace os:=repK.own_out (F:=[]) os (Out.of_below hb) (fun _ _=>by simp);replace o2:=repK.own_out (F:=[]) o2 (Out.of_below hb) (fun _ _=>by simp);replace t2:=t2.below hb;replace b0:=b0.trans (hb.mono b0.size);clear hb;clear gi bR;have bu:RepQ.n qi≤1048576:=bD.out qi ei;obtain⟨cl,U,ch,T,ct,V,cx,J,cp,aa⟩:=qi;obtain⟨aM,aN,rfl⟩:∃a c,cl=.slice a U.length c:=oi.1.shape;obtain⟨aK,aL,rfl⟩:∃a c,ch=.slice a T.length c:=oi.2.1.shape;obtain⟨aS,aT,rfl⟩:∃a c,ct=.slice a V.length c:=oi.2.2.1.shape;obtain⟨aU,aV,rfl⟩:∃a c,cx=.slice a J.length c:=oi.2.2.2.1.shape;obtain⟨aP,aQ,rfl⟩:∃a c,cp=.slice a aa.length c:=oi.2.2.2.2.shape;have Y0:=Blk.new w8 35 #[.int .i64 D,.int .i64 A,.int .i64 K1,.int .i64 K1,.slice aM U.length aN,.slice aK T.length aL,.slice aS V.length aT,.slice aU J.length aV,.slice aP aa.length aQ];have hb:Below w8.heap.size w8 (w8.alloc (.cells #[.int .i64 D,.int .i64 A,.int .i64 K1,.int .i64 K1,.slice aM U.length aN,.slice aK T.length aL,.slice aS V.length aT,.slice aU J.length aV,.slice aP aa.length aQ] 35)):=by go_grown
 replace A0:=A0.below hb;replace S0:=S0.below hb;replace X0:=X0.below hb;replace os:=repK.own_out (F:=[]) os (Out.of_below hb) (fun _ _=>by simp);replace o2:=repK.own_out (F:=[]) o2 (Out.of_below hb) (fun _ _=>by simp);replace oi:=repK.own_out (F:=[]) oi (Out.of_below hb) (fun _ _=>by simp);replace t2:=t2.below hb;replace b0:=b0.trans (hb.mono b0.size);clear hb;obtain⟨r0,r1,r2,r3,r4,r5,r6,r7,r8⟩:=S0.cel9
 go_wp2_with fail
 clear r0 r1 r2 r3 r4 r5 r6 r7 r8;generalize w8.alloc (.cells #[.int .i64 D,.int .i64 A,.int .i64 K1,.int .i64 K1,.slice aM U.length aN,.slice aK T.length aL,.slice aS V.length aT,.slice aU J.length aV,.slice aP aa.length aQ] 35)=W8 at*;refine(q17 D A K1 K1 (⟨.slice aM U.length aN,U,.slice aK T.length aL,T,.slice aS V.length aT,V,.slice aU J.length aV,J,.slice aP aa.length aQ,aa⟩:RepQ) (⟨.slice ak C.length al,C,.slice ai z.length aj,z,.slice ao I.length ap,I,.slice aq d.length ar,d,.slice am O.length an,O⟩:RepQ) _ (repK.own_rd oi) (repK.own_rd os) (ei.trans es.symm) bu).mono ?_;rintro e w9 ⟨rfl,hb⟩;replace A0:=A0.below hb;replace S0:=S0.below hb;replace X0:=X0.below hb;replace Y0:=Y0.below hb;replace os:=repK.own_out (F:=[]) os (Out.of_below hb) (fun _ _=>by simp);replace o2:=repK.own_out (F:=[]) o2 (Out.of_below hb) (fun _ _=>by simp);replace oi:=repK.own_out (F:=[]) oi (Out.of_below hb) (fun _ _=>by simp);replace t2:=t2.below hb;replace b0:=b0.trans (hb.mono b0.size);clear hb
 go_wp2_with fail
 refine(bj.out _ (bt.out _ b0) hl).mono ?_;rintro e cU ⟨v3,c3,rfl,f3,t3,_,_,hb⟩;obtain⟨za,zc,rfl⟩:=t3.shape;replace A0:=A0.below hb;replace S0:=S0.below hb;replace X0:=X0.below hb;replace Y0:=Y0.below hb;replace os:=repK.own_out (F:=[]) os (Out.of_below hb) (fun _ _=>by simp);replace o2:=repK.own_out (F:=[]) o2 (Out.of_below hb) (fun _ _=>by simp);replace oi:=repK.own_out (F:=[]) oi (Out.of_below hb) (fun _ _=>by simp);replace t2:=t2.below hb;replace b0:=b0.trans (hb.mono b0.size);clear hb
 go_wp2_with fail
 refine(bQ.out _ _ c2 c3 f2 f3 _ t2.at t3.at (by rw[bc.out c2 f2];exact hl)).mono ?_;rintro e bg ⟨rfl,hb⟩;clear t3 f3;replace A0:=A0.below hb;replace S0:=S0.below hb;replace X0:=X0.below hb;replace Y0:=Y0.below hb;replace os:=repK.own_out (F:=[]) os (Out.of_below hb) (fun _ _=>by simp);replace o2:=repK.own_out (F:=[]) o2 (Out.of_below hb) (fun _ _=>by simp);replace oi:=repK.own_out (F:=[]) oi (Out.of_below hb) (fun _ _=>by simp);replace t2:=t2.below hb;replace b0:=b0.trans (hb.mono b0.size);clear hb;clear bQ
 go_wp2_with fail
 have hW:Below bg.heap.size bg bg.drew:=(Below.refl _ _).drew;have bN:Nonempty (Lat bg):=⟨⟨bg,Below.refl _ _⟩⟩
 obtain⟨k0,k1,k2,k3,k4,k5,k6⟩:=A0.lts7;obtain⟨l0,l1,l2,l3,l4,l5,l6⟩:=X0.lts7;refine z0e (S:=fun w'=>∃u:Lat bg,w'=u.val) (by kernel_rfl) ?_;refine sgr [(0,2)] 3 (by kernel_rfl) ⟨⟨_,hW⟩,rfl⟩ ?_;simp only[pkE];repeat go_big_quiet_step (fail)
 refine wpQuiet_nil ?_;refine cla 2 (some 51) 38 #[.agg #[.int .i64 kn,.int .i64 sf,.slice da done.length dk,.slice ba base.length bk,.slice ta au.length tk,.slice ua ag.length uk,.slice na aR.length nk]] 2 (by kernel_rfl) ?_;refine(bi.out _ (bs.out _ (b0.trans (hW.mono b0.size))) aJ).mono ?_;rintro e w9 ⟨q9,rfl,e9,o9,_,_,bl⟩;replace hW:=hW.trans (bl.mono hW.size);clear bl;refine⟨_,rfl,⟨⟨_,hW⟩,rfl⟩,?_⟩;simp only[Act.put,pjE];refine cla 3 (some 52) 41 #[.agg #[.int .i64 kn,.int .i64 sf,.slice aY ad.length aZ,.slice aW ab.length aX,.slice a6 ae.length a7,.slice a8 Y.length bb,.slice a1 ah.length a2],.agg #[.int .i64 kn,.int .i64 sf,q9.vd,q9.vb,q9.vt,q9.vu,q9.vn]] 1 (by kernel_rfl) ?_;refine(bP.out q9 e9 _ (repK.rd_below (repK.own_rd o2) hW) (repK.own_rd o9)).mono ?_;rintro e cz ⟨rfl,bl⟩;replace hW:=hW.trans (bl.mono hW.size);clear bl;refine⟨_,rfl,⟨⟨_,hW⟩,rfl⟩,?_⟩;simp only[Act.put,pjE];refine sgr [(4,1)] 0 (by kernel_rfl) ⟨⟨_,hW⟩,rfl⟩ ?_;simp only[pkE];repeat go_big_quiet_step (fail)
 refine wpQuiet_nil ?_;refine z0i (by kernel_rfl) ?_;clear bN k0 k1 k2 k3 k4 k5 k6 l0 l1 l2 l3 l4 l5 l6;clear o9 e9 bP;replace A0:=A0.below hW;replace S0:=S0.below hW;replace X0:=X0.below hW;replace Y0:=Y0.below hW;replace os:=repK.own_out (F:=[]) os (Out.of_below hW) (fun _ _=>by simp);replace o2:=repK.own_out (F:=[]) o2 (Out.of_below hW) (fun _ _=>by simp);replace oi:=repK.own_out (F:=[]) oi (Out.of_below hW) (fun _ _=>by simp);replace t2:=t2.below hW;replace b0:=b0.trans (hW.mono b0.size);clear hW
 go_wp2_with fail
 have b9:=q1Q c2;refine(z5p (.slice ya c2.length yc) c2 1 cz t2 ce (by rw[bc.out c2 f2];exact hl) (by omega) (by have:=bc.out c2 f2;omega)).mono ?_;rintro e cA ⟨rfl,_,hU⟩;have af:∀k,k∈instK.fp (.slice ya c2.length yc) c2→w5.heap.size≤k∧k<w6.heap.size:=ut;replace A0:=A0.outs9 hU (fun hk=>by have:=af _ hk;omega);replace S0:=S0.outs9 hU (fun hk=>by have:=af _ hk;omega);replace X0:=X0.outs9 hU (fun hk=>by have:=af _ hk;omega);replace Y0:=Y0.outs9 hU (fun hk=>by have:=af _ hk;omega);replace os:=repK.own_out os hU (fun k hk aO=>by have:=af _ aO;have:=us k hk;omega);replace o2:=repK.own_out o2 hU (fun k hk aO=>by have:=af _ aO;have:=u2 k hk;omega);replace oi:=repK.own_out oi hU (fun k hk aO=>by have:=af _ aO;have:=ui k hk;omega);replace b0:=Out.keep b0 hU b0.size (fun k hk=>by have:=af _ hk;omega);clear af hU;clear t2;generalize b1:(nmL nmInsS c2:Int)=M1 at*;have cP:0≤M1∧M1≤4194304:=by have:=bc.out c2 f2;omega
 clear b9 b1 f2;obtain⟨p0,p1,p2,p3,p4,p5,p6⟩:=X0.cel7
 go_wp2_with fail
 clear p0 p1 p2 p3 p4 p5 p6;have b7:=z8I (⟨.slice aY ad.length aZ,ad,.slice aW ab.length aX,ab,.slice a6 ae.length a7,ae,.slice a8 Y.length bb,Y,.slice a1 ah.length a2,ah⟩:RepQ);refine(z6u kn sf (⟨.slice aY ad.length aZ,ad,.slice aW ab.length aX,ab,.slice a6 ae.length a7,ae,.slice a8 Y.length bb,Y,.slice a1 ah.length a2,ah⟩:RepQ) (1+M1) cA o2 n2 bK (by omega) (by omega)).mono ?_;rintro e cV ⟨rfl,_,hU⟩;have af:∀k,k∈repK.foot (⟨.slice aY ad.length aZ,ad,.slice aW ab.length aX,ab,.slice a6 ae.length a7,ae,.slice a8 Y.length bb,Y,.slice a1 ah.length a2,ah⟩:RepQ)→w6.heap.size≤k∧k<w7.heap.size:=u2;replace A0:=A0.outs9 hU (fun hk=>by have:=af _ hk;omega);replace S0:=S0.outs9 hU (fun hk=>by have:=af _ hk;omega);replace X0:=X0.outs9 hU (fun hk=>by have:=af _ hk;omega);replace Y0:=Y0.outs9 hU (fun hk=>by have:=af _ hk;omega);replace os:=repK.own_out os hU (fun k hk aO=>by have:=af _ aO;have:=us k hk;omega);replace oi:=repK.own_out oi hU (fun k hk aO=>by have:=af _ aO;have:=ui k hk;omega);replace b0:=Out.keep b0 hU b0.size (fun k hk=>by have:=af _ hk;omega);clear af hU;clear o2;generalize b2:(nmRep (⟨.slice aY ad.length aZ,ad,.slice aW ab.length aX,ab,.slice a6 ae.length a7,ae,.slice a8 Y.length bb,Y,.slice a1 ah.length a2,ah⟩:RepQ):Int)=M2 at*;have cE:0≤M2∧M2≤4194304:=by omega
 have cG:¬(1+M1+M2<0):=by omega
 clear b7 b2;obtain⟨p0,p1,p2,p3,p4,p5,p6,p7,p8⟩:=Y0.cel9;obtain⟨r0,r1,r2,r3,r4,r5,r6,r7,r8⟩:=S0.cel9
 go_wp2_with fail
 clear p0 p1 p2 p3 p4 p5 p6 p7 p8;clear r0 r1 r2 r3 r4 r5 r6 r7 r8;refine(q17 D A K1 K1 (⟨.slice aM U.length aN,U,.slice aK T.length aL,T,.slice aS V.length aT,V,.slice aU J.length aV,J,.slice aP aa.length aQ,aa⟩:RepQ) (⟨.slice ak C.length al,C,.slice ai z.length aj,z,.slice ao I.length ap,I,.slice aq d.length ar,d,.slice am O.length an,O⟩:RepQ) _ (repK.own_rd oi) (repK.own_rd os) (ei.trans es.symm) bu).mono ?_;rintro e cB ⟨rfl,hb⟩;replace A0:=A0.below hb;replace S0:=S0.below hb;replace X0:=X0.below hb;replace Y0:=Y0.below hb;replace os:=repK.own_out (F:=[]) os (Out.of_below hb) (fun _ _=>by simp);replace oi:=repK.own_out (F:=[]) oi (Out.of_below hb) (fun _ _=>by simp);replace b0:=b0.trans (hb.mono b0.size);clear hb;obtain⟨p0,p1,p2,p3,p4,p5,p6,p7,p8⟩:=Y0.cel9
 go_wp2_with fail
 clear p0 p1 p2 p3 p4 p5 p6 p7 p8;have b8:=z8I (⟨.slice aM U.length aN,U,.slice aK T.length aL,T,.slice aS V.length aT,V,.slice aU J.length aV,J,.slice aP aa.length aQ,aa⟩:RepQ);refine(q3m D A K1 K1 (⟨.slice aM U.length aN,U,.slice aK T.length aL,T,.slice aS V.length aT,V,.slice aU J.length aV,J,.slice aP aa.length aQ,aa⟩:RepQ) 1 cB oi ni bu (by omega) (by omega)).mono ?_;rintro e bh ⟨rfl,om,hU⟩;have af:∀k,k∈repK.foot (⟨.slice aM U.length aN,U,.slice aK T.length aL,T,.slice aS V.length aT,V,.slice aU J.length aV,J,.slice aP aa.length aQ,aa⟩:RepQ)→W7.heap.size≤k∧k<w8.heap.size:=ui;replace A0:=A0.outs9 hU (fun hk=>by have:=af _ hk;omega);replace S0:=S0.outs9 hU (fun hk=>by have:=af _ hk;omega);replace X0:=X0.outs9 hU (fun hk=>by have:=af _ hk;omega);replace Y0:=Y0.outs9 hU (fun hk=>by have:=af _ hk;omega);replace os:=repK.own_out os hU (fun k hk aO=>by have:=af _ aO;have:=us k hk;omega);replace b0:=Out.keep b0 hU b0.size (fun k hk=>by have:=af _ hk;omega);clear af hU;clear oi;have rm:=repK.own_rd om;clear om;have bL:Hid (∀w',Below bh.heap.size bh w'→repK.rd w' (mkRep 1 (⟨.slice aM U.length aN,U,.slice aK T.length aL,T,.slice aS V.length aT,V,.slice aU J.length aV,J,.slice aP aa.length aQ,aa⟩:RepQ))):=fun w' hb=>repK.rd_below rm hb
 have aI:Below bh.heap.size bh bh:=Below.refl _ _;have bx:=fun w h=>q3n D A K1 K1 (⟨.slice aM U.length aN,U,.slice aK T.length aL,T,.slice aS V.length aT,V,.slice aU J.length aV,J,.slice aP aa.length aQ,aa⟩:RepQ) 1 w h bu (by omega) (by omega)
 have bH:Hid _:=bx;clear bx;generalize b3:(nmRep (⟨.slice aM U.length aN,U,.slice aK T.length aL,T,.slice aS V.length aT,V,.slice aU J.length aV,J,.slice aP aa.length aQ,aa⟩:RepQ):Int)=Mi at*;have cF:0≤Mi∧Mi≤4194304:=by omega
 have cR:¬(1+Mi<0):=by omega
 have cQ:((1+Mi) !=(1+Mi))=false:=by simp
 clear b8 b3 rm;obtain⟨p0,p1,p2,p3,p4,p5,p6,p7,p8⟩:=Y0.cel9
 go_wp2_with fail
 clear p0 p1 p2 p3 p4 p5 p6 p7 p8;refine(bH.out bh (bL.out _ aI)).mono ?_;rintro e av ⟨rfl,hb⟩;replace aI:=aI.trans (hb.mono aI.size);replace A0:=A0.below hb;replace S0:=S0.below hb;replace X0:=X0.below hb;replace Y0:=Y0.below hb;replace os:=repK.own_out (F:=[]) os (Out.of_below hb) (fun _ _=>by simp);replace b0:=b0.trans (hb.mono b0.size);clear hb
 go_wp2_with fail
 obtain⟨k0,k1,k2,k3,k4,k5,k6⟩:=A0.lts7;refine z05 [some 79,some 80,some 81,some 82,some 83,some 84,some 15] (fun vs w'=>∃ (v25 v27:Value) (ay:Option Addr) (az:Nat) (M:List TxnQ) (aw:Option Addr) (ax:Nat) (L:List ItemD) (aC:Option Addr) (aD:Nat) (N:List TxnQ) (aE:Option Addr) (aF:Nat) (y:List USQ) (aA:Option Addr) (aB:Nat) (X:List ItemD) (g:Nat),vs=[.slice oa ps.length oc,v25,.agg #[.int .i64 kn,.int .i64 sf,.slice da done.length dk,.slice ba base.length bk,.slice ta au.length tk,.slice ua ag.length uk,.slice na aR.length nk],v27,.int .i64 kp,.agg #[.int .i64 D,.int .i64 A,.int .i64 K1,.int .i64 K1,.slice ay M.length az,.slice aw L.length ax,.slice aC N.length aD,.slice aE y.length aF,.slice aA X.length aB],.pointer (some ⟨g,0,none⟩)]∧av.heap.size≤g∧Blk w' g 35 #[.int .i64 D,.int .i64 A,.int .i64 K1,.int .i64 K1,.slice ay M.length az,.slice aw L.length ax,.slice aC N.length aD,.slice aE y.length aF,.slice aA X.length aB]∧RepQ.e (⟨.slice ay M.length az,M,.slice aw L.length ax,L,.slice aC N.length aD,N,.slice aE y.length aF,y,.slice aA X.length aB,X⟩:RepQ)=E∧repK.own w' (⟨.slice ay M.length az,M,.slice aw L.length ax,L,.slice aC N.length aD,N,.slice aE y.length aF,y,.slice aA X.length aB,X⟩:RepQ)∧(∀k∈repK.foot (⟨.slice ay M.length az,M,.slice aw L.length ax,L,.slice aC N.length aD,N,.slice aE y.length aF,y,.slice aA X.length aB,X⟩:RepQ),av.heap.size≤k∧k≠g)∧(repK.foot (⟨.slice ay M.length az,M,.slice aw L.length ax,L,.slice aC N.length aD,N,.slice aE y.length aF,y,.slice aA X.length aB,X⟩:RepQ)).Nodup∧Below av.heap.size av w') ?_ ?_
 ·have hW:Below av.heap.size av av.drew:=(Below.refl _ _).drew;have bN:Nonempty (Lat av):=⟨⟨av,Below.refl _ _⟩⟩
  refine z0e (S:=fun w'=>∃u:Lat av,w'=u.val) (by kernel_rfl) ?_;refine sgr [(0,1),(2,1),(4,1)] 5 (by kernel_rfl) ⟨⟨_,hW⟩,rfl⟩ ?_;simp only[pkE];repeat go_big_quiet_step (fail)
  refine wpQuiet_nil ?_;clear k0 k1 k2 k3 k4 k5 k6;generalize av.drew=x at hW⊢;refine twa 1 6 4 (by kernel_rfl) ?_ ?_
  rotate_left
  focus
   refine z1c 6 _ rfl ?_;have Bz:=Blk.new x 35 #[.int .i64 0,.int .i64 0,.int .i64 0,.int .i64 0,.slice none 0 0,.slice none 0 0,.slice none 0 0,.slice none 0 0,.slice none 0 0];have be:av.heap.size≤x.heap.size:=hW.size;have Z:Below x.heap.size x (x.alloc (.cells #[.int .i64 0,.int .i64 0,.int .i64 0,.int .i64 0,.slice none 0 0,.slice none 0 0,.slice none 0 0,.slice none 0 0,.slice none 0 0] 35)):=by go_grown
   replace hW:=hW.trans (Z.mono hW.size);clear Z
   go_wp2
   refine ThenGo.to ⟨⟨⟨_,hW⟩,rfl⟩,?_⟩;generalize aG:x.heap.size=g at*;clear aG;generalize x.alloc (.cells #[.int .i64 0,.int .i64 0,.int .i64 0,.int .i64 0,.slice none 0 0,.slice none 0 0,.slice none 0 0,.slice none 0 0,.slice none 0 0] 35)=x at*
  all_goals first|refine cla 1 (some 80) 37 #[.slice oa ps.length oc] 3 (by kernel_rfl) ?_|refine opc 1 (some 80) 37 #[.slice oa ps.length oc] (by kernel_rfl) ?_
  all_goals
   refine(bj.out _ (bt.out _ (b0.trans (hW.mono b0.size))) hl).mono ?_;rintro e x ⟨v1,c1,rfl,f1,t1,_,_,hb⟩;obtain⟨xa,xc,rfl⟩:=t1.shape;try replace Bz:=Bz.below hb
   replace hW:=hW.trans (hb.mono hW.size);clear hb;refine⟨_,rfl,⟨⟨_,hW⟩,rfl⟩,?_⟩;simp only[Act.put,pgE,pjE]
  rotate_right
  refine twa 3 6 3 (by kernel_rfl) ?_ ?_
  rotate_left
  focus
   refine z1c 6 _ rfl ?_;have Bz:=Blk.new x 35 #[.int .i64 0,.int .i64 0,.int .i64 0,.int .i64 0,.slice none 0 0,.slice none 0 0,.slice none 0 0,.slice none 0 0,.slice none 0 0];have be:av.heap.size≤x.heap.size:=hW.size;have Z:Below x.heap.size x (x.alloc (.cells #[.int .i64 0,.int .i64 0,.int .i64 0,.int .i64 0,.slice none 0 0,.slice none 0 0,.slice none 0 0,.slice none 0 0,.slice none 0 0] 35)):=by go_grown
   replace t1:=t1.below Z;replace hW:=hW.trans (Z.mono hW.size);clear Z
   go_wp2
   refine ThenGo.to ⟨⟨⟨_,hW⟩,rfl⟩,?_⟩;generalize aG:x.heap.size=g at*;clear aG;generalize x.alloc (.cells #[.int .i64 0,.int .i64 0,.int .i64 0,.int .i64 0,.slice none 0 0,.slice none 0 0,.slice none 0 0,.slice none 0 0,.slice none 0 0] 35)=x at*
  all_goals first|refine cla 3 (some 82) 38 #[.agg #[.int .i64 kn,.int .i64 sf,.slice da done.length dk,.slice ba base.length bk,.slice ta au.length tk,.slice ua ag.length uk,.slice na aR.length nk]] 2 (by kernel_rfl) ?_|refine opc 3 (some 82) 38 #[.agg #[.int .i64 kn,.int .i64 sf,.slice da done.length dk,.slice ba base.length bk,.slice ta au.length tk,.slice ua ag.length uk,.slice na aR.length nk]] (by kernel_rfl) ?_
  all_goals
   refine(bi.out _ (bs.out _ (b0.trans (hW.mono b0.size))) aJ).mono ?_;rintro e x ⟨q1,rfl,e1,o1,_,_,hb⟩;replace t1:=t1.below hb;try replace Bz:=Bz.below hb
   replace hW:=hW.trans (hb.mono hW.size);clear hb;refine⟨_,rfl,⟨⟨_,hW⟩,rfl⟩,?_⟩;simp only[Act.put,pgE,pjE]
  rotate_right
  refine twa 5 6 2 (by kernel_rfl) ?_ ?_
  rotate_left
  focus
   refine z1c 6 _ rfl ?_;have Bz:=Blk.new x 35 #[.int .i64 0,.int .i64 0,.int .i64 0,.int .i64 0,.slice none 0 0,.slice none 0 0,.slice none 0 0,.slice none 0 0,.slice none 0 0];have be:av.heap.size≤x.heap.size:=hW.size;have Z:Below x.heap.size x (x.alloc (.cells #[.int .i64 0,.int .i64 0,.int .i64 0,.int .i64 0,.slice none 0 0,.slice none 0 0,.slice none 0 0,.slice none 0 0,.slice none 0 0] 35)):=by go_grown
   replace t1:=t1.below Z;replace o1:=repK.own_out (F:=[]) o1 (Out.of_below Z) (fun _ _=>by simp);replace hW:=hW.trans (Z.mono hW.size);clear Z
   go_wp2
   refine ThenGo.to ⟨⟨⟨_,hW⟩,rfl⟩,?_⟩;generalize aG:x.heap.size=g at*;clear aG;generalize x.alloc (.cells #[.int .i64 0,.int .i64 0,.int .i64 0,.int .i64 0,.slice none 0 0,.slice none 0 0,.slice none 0 0,.slice none 0 0,.slice none 0 0] 35)=x at*
  all_goals first|refine cla 5 (some 84) 24 #[.slice xa c1.length xc,.agg #[.int .i64 kn,.int .i64 sf,q1.vd,q1.vb,q1.vt,q1.vu,q1.vn],.int .i64 kp] 1 (by kernel_rfl) ?_|refine opc 5 (some 84) 24 #[.slice xa c1.length xc,.agg #[.int .i64 kn,.int .i64 sf,q1.vd,q1.vb,q1.vt,q1.vu,q1.vn],.int .i64 kp] (by kernel_rfl) ?_
  all_goals
   refine(bB.out _ c1 q1 f1 e1 _ (hG.below (b0.trans (hW.mono b0.size))) (hE.below (b0.trans (hW.mono b0.size))) t1 (by rw[bc.out c1 f1];exact hl) o1 (by rw[bC.out q1 e1];exact aJ)).mono ?_;rintro e x ⟨qh,rfl,es,oh,br,gh,hb⟩;have bE:∀k∈repK.foot qh,av.heap.size≤k:=fun k hk=>by have:=gh k hk;have:=hW.size;omega
   try have bd:∀k∈repK.foot qh,k≠g:=fun k hk=>by have:=gh k hk;have:=Bz.lt;omega
   obtain⟨ck,M,cg,L,cs,N,cw,y,co,X⟩:=qh;obtain⟨ay,az,rfl⟩:∃a c,ck=.slice a M.length c:=oh.1.shape;obtain⟨aw,ax,rfl⟩:∃a c,cg=.slice a L.length c:=oh.2.1.shape;obtain⟨aC,aD,rfl⟩:∃a c,cs=.slice a N.length c:=oh.2.2.1.shape;obtain⟨aE,aF,rfl⟩:∃a c,cw=.slice a y.length c:=oh.2.2.2.1.shape;obtain⟨aA,aB,rfl⟩:∃a c,co=.slice a X.length c:=oh.2.2.2.2.shape;dsimp only;try replace Bz:=Bz.below hb
   replace hW:=hW.trans (hb.mono hW.size);clear hb;refine⟨_,rfl,⟨⟨_,hW⟩,rfl⟩,?_⟩;simp only[Act.put,pgE,pjE]
  rotate_right
  focus
   refine ona 6 1 rfl (by kernel_rfl) ?_;have Bz:=Blk.new x 35 #[.int .i64 0,.int .i64 0,.int .i64 0,.int .i64 0,.slice none 0 0,.slice none 0 0,.slice none 0 0,.slice none 0 0,.slice none 0 0];have be:av.heap.size≤x.heap.size:=hW.size;have Z:Below x.heap.size x (x.alloc (.cells #[.int .i64 0,.int .i64 0,.int .i64 0,.int .i64 0,.slice none 0 0,.slice none 0 0,.slice none 0 0,.slice none 0 0,.slice none 0 0] 35)):=by go_grown
   have bd:∀k∈repK.foot (⟨.slice ay M.length az,M,.slice aw L.length ax,L,.slice aC N.length aD,N,.slice aE y.length aF,y,.slice aA X.length aB,X⟩:RepQ),k≠x.heap.size:=fun k hk=>by have:=repK.own_lt oh k hk;omega
   replace oh:=repK.own_out (F:=[]) oh (Out.of_below Z) (fun _ _=>by simp);replace hW:=hW.trans (Z.mono hW.size);clear Z
   go_wp2
   refine ThenGo.to ⟨⟨⟨_,hW⟩,rfl⟩,?_⟩;generalize aG:x.heap.size=g at*;clear aG;generalize x.alloc (.cells #[.int .i64 0,.int .i64 0,.int .i64 0,.int .i64 0,.slice none 0 0,.slice none 0 0,.slice none 0 0,.slice none 0 0,.slice none 0 0] 35)=x at*
  all_goals
   refine ona 7 0 rfl (by kernel_rfl) ?_;have bm:av.heap.size≤g:=by omega
   have Rz:=Bz.row #[.int .i64 D,.int .i64 A,.int .i64 K1,.int .i64 K1,.slice ay M.length az,.slice aw L.length ax,.slice aC N.length aD,.slice aE y.length aF,.slice aA X.length aB];have oz:=repK.own_out oh (z1w _ g #[.int .i64 D,.int .i64 A,.int .i64 K1,.int .i64 K1,.slice ay M.length az,.slice aw L.length ax,.slice aC N.length aD,.slice aE y.length aF,.slice aA X.length aB]) (fun k hk=>by simp only[List.mem_singleton];exact bd k hk);replace hW:=z0p hW bm #[.int .i64 D,.int .i64 A,.int .i64 K1,.int .i64 K1,.slice ay M.length az,.slice aw L.length ax,.slice aC N.length aD,.slice aE y.length aF,.slice aA X.length aB];refine z0K (by kernel_rfl) 35 _ _ rfl _ #[.int .i64 D,.int .i64 A,.int .i64 K1,.int .i64 K1,.slice ay M.length az,.slice aw L.length ax,.slice aC N.length aD,.slice aE y.length aF,.slice aA X.length aB] rfl rfl 35 _ Bz q5M rfl (by simp[Value.oneCell']) ?_;refine ThenGo.to ⟨⟨⟨_,hW⟩,rfl⟩,?_⟩;refine z0i (by kernel_rfl) ?_;refine⟨rfl,_,⟨.slice xa c1.length xc,.agg #[.int .i64 kn,.int .i64 sf,q1.vd,q1.vb,q1.vt,q1.vu,q1.vn],ay,az,M,aw,ax,L,aC,aD,N,aE,aF,y,aA,aB,X,g,rfl,bm,Rz,es,oz,fun k hk=>⟨bE k hk,bd k hk⟩,br,hW⟩,?_⟩;simp only[z1n,Act.put,pgE,pjE];try rfl
 rintro vs cW ⟨v25,v27,ay,az,M,aw,ax,L,aC,aD,N,aE,aF,y,aA,aB,X,gh,rfl,cN,Sh,eh,oh,cH,cT,aH⟩;simp only[z1n,Act.put,pjE];clear k0 k1 k2 k3 k4 k5 k6;replace aI:=aI.trans (aH.mono aI.size);replace A0:=A0.below aH;replace S0:=S0.below aH;replace X0:=X0.below aH;replace Y0:=Y0.below aH;replace os:=repK.own_out (F:=[]) os (Out.of_below aH) (fun _ _=>by simp);replace b0:=b0.trans (aH.mono b0.size);clear aH;clear bB bj bi;have b6:RepQ.n (⟨.slice ay M.length az,M,.slice aw L.length ax,L,.slice aC N.length aD,N,.slice aE y.length aF,y,.slice aA X.length aB,X⟩:RepQ)≤1048576:=bD.out _ eh;have H0:=Sh;clear Sh;obtain⟨p0,p1,p2,p3,p4,p5,p6,p7,p8⟩:=H0.cel9;obtain⟨r0,r1,r2,r3,r4,r5,r6,r7,r8⟩:=S0.cel9
 go_wp2_with fail
 clear p0 p1 p2 p3 p4 p5 p6 p7 p8;clear r0 r1 r2 r3 r4 r5 r6 r7 r8;refine(q17 D A K1 K1 (⟨.slice ay M.length az,M,.slice aw L.length ax,L,.slice aC N.length aD,N,.slice aE y.length aF,y,.slice aA X.length aB,X⟩:RepQ) (⟨.slice ak C.length al,C,.slice ai z.length aj,z,.slice ao I.length ap,I,.slice aq d.length ar,d,.slice am O.length an,O⟩:RepQ) _ (repK.own_rd oh) (repK.own_rd os) (eh.trans es.symm) b6).mono ?_;rintro e cC ⟨rfl,hb⟩;replace aI:=aI.trans (hb.mono aI.size);replace A0:=A0.below hb;replace S0:=S0.below hb;replace X0:=X0.below hb;replace Y0:=Y0.below hb;replace H0:=H0.below hb;replace os:=repK.own_out (F:=[]) os (Out.of_below hb) (fun _ _=>by simp);replace oh:=repK.own_out (F:=[]) oh (Out.of_below hb) (fun _ _=>by simp);replace b0:=b0.trans (hb.mono b0.size);clear hb;obtain⟨p0,p1,p2,p3,p4,p5,p6,p7,p8⟩:=Y0.cel9
 go_wp2_with fail
 clear p0 p1 p2 p3 p4 p5 p6 p7 p8;refine(bH.out cC (bL.out _ aI)).mono ?_;rintro e cX ⟨rfl,hb⟩;replace b0:=b0.trans (hb.mono b0.size);clear hb bH bL aI A0 S0 X0 Y0 H0 os oh
 go_wp2
 go_ret;exact⟨rfl,b0⟩
end Go.Proofs.YtlkpdgjnhkjpjaaGreatDoor

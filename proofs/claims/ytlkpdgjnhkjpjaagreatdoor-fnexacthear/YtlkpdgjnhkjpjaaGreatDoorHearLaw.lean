/- The law FnExactHear,walked:at every order,every node and every transaction that can be read it answers true,and it writes into nothing that was there. The conditions:impl.rules and errors.errorType start as the program's text lays them. -/
import Derived.Test.YtlkpdgjnhkjpjaaGreatDoorHs11
import Derived.Test.YtlkpdgjnhkjpjaaGreatDoorHe11
import Derived.Test.YtlkpdgjnhkjpjaaGreatDoorSYAT
import Derived.Test.YtlkpdgjnhkjpjaaGreatDoorSYBF
import Derived.Test.YtlkpdgjnhkjpjaaGreatDoorSYBM
set_option linter.unusedVariables false
set_option linter.unusedSimpArgs false
set_option maxRecDepth 100000
set_option maxHeartbeats 16000000
namespace Go.Proofs.YtlkpdgjnhkjpjaaGreatDoor
open Go.RowKit Go.BigFrame
theorem z32{q t:TxnQ}(h:q.e=t.e):q.n=t.n:=by
  have:=congrArg (fun x=>x.acts.length) h;simpa[TxnQ.e,TxnQ.n]using this
theorem z35{q:RepQ}{r:RepE}{t:TxnD}(h:q.e=opE r t):q.n≤1048576:=by
  unfold opE at h;by_cases h0:opC r t=0
  · rw[if_pos h0]at h;obtain⟨z0,z1,_,_,z4⟩:=q4f h0;have hz:=z1D z0;have ha:=((z09 _).1 hz.2.1).2.1;have := z7M h (fun t ht => ha t (List.mem_append_left _ ht)) (fun x hx => by
      rcases List.mem_append.1 hx with hx|hx
      · exact ha x (List.mem_append_right _ hx)
      · simp only [List.mem_singleton] at hx; subst hx; exact z1) (by omega) (by simp; omega)
    omega
  · rw[if_neg h0]at h;have:=q6w (p:=q) (q:=q0t) h;rw[this];simp[RepQ.n,q0t,nmL]
theorem he_n{ds:List InstE}{kn sf:Int}{x:RepE}{y:TxnD}{q:RepQ}(h:q.e=heE ds kn sf x y):q.n≤1048576:=by
  unfold heE at h;by_cases h0:heC ds kn sf x y=0
  · rw[if_pos h0]at h;exact z35 h
  · rw[if_neg h0]at h;have:=q6w (p:=q) (q:=q0t) h;rw[this];simp[RepQ.n,q0t,nmL]
theorem z26(p:TxnQ)(c:Int)(w:World)(h:txnK.own w p)(hl:TxnQ.n p≤1048576)(h0:0≤c)(h1:c≤1099511627776):
    Calls Tryz.prog 49 #[.agg #[.int .i64 p.i,.int .i64 p.s,.int .i64 p.q,p.va],.int .i64 c] w fun e w'=>e=.returned (.int .i64 (c+((p.acts.length*3:Nat):Int)))∧Out (txnK.foot p) w w':=by
  have hA:actK.Own w p.va p.acts:=h;have hl':p.acts.length≤1048576:=hl;refine(q7b p.i p.s p.q 0 p.va p.acts.length _ c w hA.1 (by omega) h0 h1).mono ?_;rintro e w' ⟨rfl,_,hg⟩;refine⟨rfl,?_⟩;rw[show txnK.foot p=actK.fp p.va p.acts from rfl,z0S];exact Out.of_grown hg
theorem z8Z(p:RepQ):nmRep p≤3*p.n:=by
  obtain⟨vd,done,vb,base,vt,tent,vu,undos,vn,now⟩:=p;have h1:=z3e done;have h2:=z3e tent;have h3:=z7B undos;simp only[nmRep,RepQ.n];omega
theorem Blk.outs9{w w':World}{b:Nat}{t:TypeId}{cs:Array Value}{F:List Nat}(h:Blk w b t cs)(hU:Out F w w')(hF:b∉F):Blk w' b t cs:=(hU.block b h.lt hF).trans h
theorem z44{w w':World}{p:RepQ}(h:repK.own w p)(hb:Below w.heap.size w w'):repK.own w' p:=repK.own_out (F:=[]) h (Out.of_below hb) (fun _ _=>by simp)
theorem z46{w w':World}{p:TxnQ}(h:txnK.own w p)(hb:Below w.heap.size w w'):txnK.own w' p:=txnK.own_out (F:=[]) h (Out.of_below hb) (fun _ _=>by simp)
theorem q6C:(Tryz.prog.info? 35).map (·.size)=some 9:=by kernel_rfl
theorem z27(v:Value)(ps:List InstQ)(kn sf:Int)(p:RepQ)(t:TxnQ)(ds:List InstE)(x:RepE)(y:TxnD)(hd:ps.map InstQ.e=ds)(hx:p.e=x)(hy:t.e=y)(w:World)(h:instK.Own w v ps)(hl:(ps.length+nmL InstQ.n ps)≤1048576)(hp:repK.own w p)(hl':p.n≤1048576)(hT:txnK.own w t)(ht:TxnQ.n t≤1048576):
    Calls Tryz.prog 16 #[v,.agg #[.int .i64 kn,.int .i64 sf,p.vd,p.vb,p.vt,p.vu,p.vn],.agg #[.int .i64 t.i,.int .i64 t.s,.int .i64 t.q,t.va]] w fun e w'=>∃q:RepQ,e=.returned (.agg #[.int .i64 (heC ds kn sf x y),.int .i64 (heA ds kn sf x y),.int .i64 (heK ds kn sf x y),.int .i64 (heS ds kn sf x y),q.vd,q.vb,q.vt,q.vu,q.vn])∧q.e=heE ds kn sf x y∧repK.own w' q∧(repK.foot q).Nodup∧(∀k∈repK.foot q,w.heap.size≤k)∧Below w.heap.size w w':=by
  subst hd hx hy;exact z23 v ps kn sf p t w h.at hl hp hl' hT ht
theorem z28(v:Value)(ps:List InstQ)(kn sf:Int)(p:RepQ)(t:TxnQ)(ds:List InstE)(x:RepE)(y:TxnD)(hd:ps.map InstQ.e=ds)(hx:p.e=x)(hy:t.e=y)(w:World)(hG:Rul w)(hE:ErrT w)(h:instK.Own w v ps)(hl:(ps.length+nmL InstQ.n ps)≤1048576)(hp:repK.own w p)(hl':p.n≤1048576)(hT:txnK.own w t)(ht:TxnQ.n t≤1048576):
    Calls Tryz.prog 15 #[v,.agg #[.int .i64 kn,.int .i64 sf,p.vd,p.vb,p.vt,p.vu,p.vn],.agg #[.int .i64 t.i,.int .i64 t.s,.int .i64 t.q,t.va]] w fun e w'=>∃q:RepQ,e=.returned (.agg #[.int .i64 (heC ds kn sf x y),.int .i64 (heA ds kn sf x y),.int .i64 (heK ds kn sf x y),.int .i64 (heS ds kn sf x y),q.vd,q.vb,q.vt,q.vu,q.vn])∧q.e=heE ds kn sf x y∧repK.own w' q∧(repK.foot q).Nodup∧(∀k∈repK.foot q,w.heap.size≤k)∧Below w.heap.size w w':=by
  subst hd hx hy;exact z22 v ps kn sf p t w hG hE h hl hp hl' hT ht
theorem z41(v:Value)(ps:List InstQ)(kn sf:Int)(p:RepQ)(t:TxnQ)(w:World)(hG:Rul w)(hE:ErrT w)(h:instK.At w v ps)(hn:ps.length≤9223372036854775807)(cv:∀p∈ps,InstQ.wf p)(hp:repK.rd w p)(hw:p.wf)(b5:txnK.rd w t)(cs:TxnQ.wf t):
    Calls Tryz.prog 7 #[v,.agg #[.int .i64 kn,.int .i64 sf,p.vd,p.vb,p.vt,p.vu,p.vn],.agg #[.int .i64 t.i,.int .i64 t.s,.int .i64 t.q,t.va]] w fun e w'=>e=.returned (.bool true)∧Below w.heap.size w w':=by
  have bD:=fun w h=>z7n v ps 1048576 w h hn cv (by omega) (by omega)
  have bl:=fun c w h h0 h1=>q32 kn sf p c w h hw h0 h1
  have bm:=fun c w h h0 h1=>q4T t c w h cs h0 h1
  have bE:=fun w h hl=>z7p v ps w h hl
  have bn:=fun w h hl=>q33 kn sf p w h hl
  have bo:=fun w h hl=>q4V t w h hl
  have ca:=fun v qs q b (hq:qs.map InstQ.e=ps.map InstQ.e) (hr:RepQ.e q=p.e) (hb:TxnQ.e b=t.e) w h hl h' aD hT ht=>z27 v qs kn sf q b _ _ _ hq hr hb w h hl h' aD hT ht
  have b3:=fun v qs q b (hq:qs.map InstQ.e=ps.map InstQ.e) (hr:RepQ.e q=p.e) (hb:TxnQ.e b=t.e) w hG hE h hl h' aD hT ht=>z28 v qs kn sf q b _ _ _ hq hr hb w hG hE h hl h' aD hT ht
  have b9:∀q:RepQ,q.e=heE (ps.map InstQ.e) kn sf p.e t.e→q.n≤1048576:=fun q hq=>he_n hq
  have b7:∀qs:List InstQ,qs.map InstQ.e=ps.map InstQ.e→qs.length+nmL InstQ.n qs=ps.length+nmL InstQ.n ps:=fun qs hq=>q5i hq
  have b6:∀q:RepQ,q.e=p.e→q.n=p.n:=fun q hq=>q6w hq
  have b8:∀q:TxnQ,q.e=t.e→q.n=t.n:=fun q hq=>z32 hq
  have bA:=fun v v' (q q':List InstQ) (hq:q.map InstQ.e=ps.map InstQ.e) (aR:q'.map InstQ.e=ps.map InstQ.e) w h h' hl=>z7o v v' q q' w h h' (hq.trans aR.symm) hl
  have bz:=fun(q q':RepQ) (hq:q.e=p.e) (aR:q'.e=p.e) w h h' hl=>q0m kn sf q q' w h h' (hq.trans aR.symm) hl
  have bB:=fun(q q':TxnQ) (hq:q.e=t.e) (aR:q'.e=t.e) w h h' hl=>q4U q q' w h h' (hq.trans aR.symm) hl
  have bj:=fun(w':World) hb=>Kind.At.below (w':=w') h hb
  have a6:=fun(w':World) hb=>repK.rd_below (w':=w') hp hb
  have a7:=fun(w':World) hb=>txnK.rd_below (w':=w') b5 hb
  generalize heE (ps.map InstQ.e) kn sf p.e t.e=E at*;generalize heA (ps.map InstQ.e) kn sf p.e t.e=A at*;generalize heK (ps.map InstQ.e) kn sf p.e t.e=K1 at*;generalize heS (ps.map InstQ.e) kn sf p.e t.e=K2 at*;generalize heC (ps.map InstQ.e) kn sf p.e t.e=D at*;generalize ps.map InstQ.e=ds at*;generalize cp:ps.length+nmL InstQ.n ps=on at*;generalize cq:p.e=pe at*;generalize cr:p.n=pn at*;generalize ct:t.e=te at*;generalize cu:t.n=tn at*;obtain⟨vd,done,vb,X,vt,Z,vu,T,vn,aB⟩:=p;obtain⟨da,dk,rfl⟩:∃a c,vd=.slice a done.length c:=hp.1.shape;obtain⟨ba,bk,rfl⟩:∃a c,vb=.slice a X.length c:=hp.2.1.shape;obtain⟨ta,tk,rfl⟩:∃a c,vt=.slice a Z.length c:=hp.2.2.1.shape;obtain⟨ua,uk,rfl⟩:∃a c,vu=.slice a T.length c:=hp.2.2.2.1.shape;obtain⟨na,nk,rfl⟩:∃a c,vn=.slice a aB.length c:=hp.2.2.2.2.shape;obtain⟨oa,oc,rfl⟩:=h.shape;obtain⟨ti,ts,tq,cc,V⟩:=t;obtain⟨aP,aQ,rfl⟩:∃a c,cc=.slice a V.length c:=(show actK.At w cc V from b5).shape;dsimp only at bl bn a6 bm bo a7;have b0:Below w.heap.size w ((w.alloc (.cells #[.int .i64 kn,.int .i64 sf,.slice da done.length dk,.slice ba X.length bk,.slice ta Z.length tk,.slice ua T.length uk,.slice na aB.length nk] 63)).alloc (.cells #[.int .i64 ti,.int .i64 ts,.int .i64 tq,.slice aP V.length aQ] 76)):=by go_grown
  have A0:=(Blk.new w 63 #[.int .i64 kn,.int .i64 sf,.slice da done.length dk,.slice ba X.length bk,.slice ta Z.length tk,.slice ua T.length uk,.slice na aB.length nk]).below (w':=(w.alloc (.cells #[.int .i64 kn,.int .i64 sf,.slice da done.length dk,.slice ba X.length bk,.slice ta Z.length tk,.slice ua T.length uk,.slice na aB.length nk] 63)).alloc (.cells #[.int .i64 ti,.int .i64 ts,.int .i64 tq,.slice aP V.length aQ] 76)) (by go_grown);have A1:=Blk.new (w.alloc (.cells #[.int .i64 kn,.int .i64 sf,.slice da done.length dk,.slice ba X.length bk,.slice ta Z.length tk,.slice ua T.length uk,.slice na aB.length nk] 63)) 76 #[.int .i64 ti,.int .i64 ts,.int .i64 tq,.slice aP V.length aQ];simp only[World.size_alloc]at A1;go_enter Tryz.func7,Tryz.ntmps7
  go_wp2_with fail
  generalize (w.alloc (.cells #[.int .i64 kn,.int .i64 sf,.slice da done.length dk,.slice ba X.length bk,.slice ta Z.length tk,.slice ua T.length uk,.slice na aB.length nk] 63)).alloc (.cells #[.int .i64 ti,.int .i64 ts,.int .i64 tq,.slice aP V.length aQ] 76)=W at*;refine(bD W (bj W b0)).mono ?_;rintro e w1 ⟨r,rfl,hr,hb⟩;replace A0:=A0.below hb;replace A1:=A1.below hb;replace b0:=b0.trans (hb.mono b0.size);clear hb;clear bD;by_cases b4:r<0
  ·go_wp2
   go_ret;exact⟨rfl,b0⟩
  have hl:((on:Nat):Int)+r=1048576:=hr (by omega);clear hr;obtain⟨p0,p1,p2,p3,p4,p5,p6⟩:=A0.cel7
  go_wp2_with fail
  clear p0 p1 p2 p3 p4 p5 p6;refine(bl r w1 (a6 w1 b0) (by omega) (by omega)).mono ?_;rintro e w2 ⟨r',rfl,hr,hb⟩;replace A0:=A0.below hb;replace A1:=A1.below hb;replace b0:=b0.trans (hb.mono b0.size);clear hb;clear bl;by_cases bS:r'<0
  ·go_wp2
   go_ret;exact⟨rfl,b0⟩
  have aD:((pn:Nat):Int)+r'=r:=hr (by omega);clear hr;obtain⟨p0,p1,p2,p3⟩:=A1.cel4
  go_wp2_with fail
  clear p0 p1 p2 p3;refine(bm r' w2 (a7 w2 b0) (by omega) (by omega)).mono ?_;rintro e w3 ⟨r3,rfl,hr,hb⟩;replace A0:=A0.below hb;replace A1:=A1.below hb;replace b0:=b0.trans (hb.mono b0.size);clear hb;clear bm;by_cases bT:r3<0
  ·go_wp2
   go_ret;exact⟨rfl,b0⟩
  have aX:((tn:Nat):Int)+r3=r':=hr (by omega);clear hr;replace aX:tn≤1048576:=by omega
  replace aD:pn≤1048576:=by omega
  replace hl:on≤1048576:=by omega
  go_wp2_with fail
  clear b4 bS bT;have bf:Hid _:=bE;clear bE;have be:Hid _:=bn;clear bn;have bg:Hid _:=bo;clear bo;have bZ:Hid _:=ca;clear ca;have bF:Hid _:=b3;clear b3;have bH:Hid _:=b9;clear b9;have a4:Hid _:=b7;clear b7;have bG:Hid _:=b6;clear b6;have bI:Hid _:=b8;clear b8;have bW:Hid _:=bA;clear bA;have cd:Hid _:=bz;clear bz;have ce:Hid _:=bB;clear bB;have bu:Hid _:=bj;clear bj;have bt:Hid _:=a6;clear a6;have bv:Hid _:=a7;clear a7;clear cp cq cr ct cu;have cW:=A1.lt;obtain⟨k0,k1,k2,k3,k4,k5,k6⟩:=A0.lts7;obtain⟨m0,m1,m2,m3⟩:=A1.lts4;refine z0T [some 32,some 33,some 34,some 35,some 36,some 37,some 38,some 8] (fun vs w'=>∃ (bq br bs:Value) (ad:Option Addr) (ae:Nat) (l:List TxnQ) (aa:Option Addr) (ab:Nat) (j:List ItemD) (aj:Option Addr) (ak:Nat) (m:List TxnQ) (al:Option Addr) (am:Nat) (d:List USQ) (ah:Option Addr) (ai:Nat) (C:List ItemD) (g:Nat),vs=[.slice oa ps.length oc,bq,.agg #[.int .i64 kn,.int .i64 sf,.slice da done.length dk,.slice ba X.length bk,.slice ta Z.length tk,.slice ua T.length uk,.slice na aB.length nk],br,.agg #[.int .i64 ti,.int .i64 ts,.int .i64 tq,.slice aP V.length aQ],bs,.agg #[.int .i64 D,.int .i64 A,.int .i64 K1,.int .i64 K2,.slice ad l.length ae,.slice aa j.length ab,.slice aj m.length ak,.slice al d.length am,.slice ah C.length ai],.pointer (some ⟨g,0,none⟩)]∧w3.heap.size≤g∧Blk w' g 35 #[.int .i64 D,.int .i64 A,.int .i64 K1,.int .i64 K2,.slice ad l.length ae,.slice aa j.length ab,.slice aj m.length ak,.slice al d.length am,.slice ah C.length ai]∧RepQ.e (⟨.slice ad l.length ae,l,.slice aa j.length ab,j,.slice aj m.length ak,m,.slice al d.length am,d,.slice ah C.length ai,C⟩:RepQ)=E∧repK.own w' (⟨.slice ad l.length ae,l,.slice aa j.length ab,j,.slice aj m.length ak,m,.slice al d.length am,d,.slice ah C.length ai,C⟩:RepQ)∧(∀k∈repK.foot (⟨.slice ad l.length ae,l,.slice aa j.length ab,j,.slice aj m.length ak,m,.slice al d.length am,d,.slice ah C.length ai,C⟩:RepQ),w3.heap.size≤k∧k≠g)∧(repK.foot (⟨.slice ad l.length ae,l,.slice aa j.length ab,j,.slice aj m.length ak,m,.slice al d.length am,d,.slice ah C.length ai,C⟩:RepQ)).Nodup∧Below w3.heap.size w3 w') ?_ ?_
  ·have hW:Below w3.heap.size w3 w3.drew:=(Below.refl _ _).drew;have bi:Nonempty (Lat w3):=⟨⟨w3,Below.refl _ _⟩⟩
   refine z0b (S:=fun w'=>∃u:Lat w3,w'=u.val) (by kernel_rfl) ?_;refine sgr [(0,1),(2,1),(4,1)] 6 (by kernel_rfl) ⟨⟨_,hW⟩,rfl⟩ ?_;simp only[pkE];repeat go_big_quiet_step (fail)
   refine wpQuiet_nil ?_;clear k0 k1 k2 k3 k4 k5 k6 m0 m1 m2 m3;generalize w3.drew=x at hW⊢;refine twa 1 7 5 (by kernel_rfl) ?_ ?_
   rotate_left
   focus
     refine z0L 7 _ rfl ?_;have Bz:=Blk.new x 35 #[.int .i64 0,.int .i64 0,.int .i64 0,.int .i64 0,.slice none 0 0,.slice none 0 0,.slice none 0 0,.slice none 0 0,.slice none 0 0];have aS:w3.heap.size≤x.heap.size:=hW.size;have H:Below x.heap.size x (x.alloc (.cells #[.int .i64 0,.int .i64 0,.int .i64 0,.int .i64 0,.slice none 0 0,.slice none 0 0,.slice none 0 0,.slice none 0 0,.slice none 0 0] 35)):=by go_grown
     replace hW:=hW.trans (H.mono hW.size);clear H
     go_wp2
     refine ThenGo.to ⟨⟨⟨_,hW⟩,rfl⟩,?_⟩;generalize af:x.heap.size=g at*;clear af;generalize x.alloc (.cells #[.int .i64 0,.int .i64 0,.int .i64 0,.int .i64 0,.slice none 0 0,.slice none 0 0,.slice none 0 0,.slice none 0 0,.slice none 0 0] 35)=x at*
   all_goals first|refine cla 1 (some 33) 37 #[.slice oa ps.length oc] 4 (by kernel_rfl) ?_|refine opc 1 (some 33) 37 #[.slice oa ps.length oc] (by kernel_rfl) ?_
   all_goals
     refine(bf.out _ (bu.out _ (b0.trans (hW.mono b0.size))) hl).mono ?_;rintro e x ⟨v1,c1,rfl,f1,t1,_,_,hb⟩;obtain⟨xa,xc,rfl⟩:=t1.shape;try replace Bz:=Bz.below hb
     replace hW:=hW.trans (hb.mono hW.size);clear hb;refine⟨_,rfl,⟨⟨_,hW⟩,rfl⟩,?_⟩;simp only[Act.put,pgE,pjE]
   rotate_right
   refine twa 3 7 4 (by kernel_rfl) ?_ ?_
   rotate_left
   focus
     refine z0L 7 _ rfl ?_;have Bz:=Blk.new x 35 #[.int .i64 0,.int .i64 0,.int .i64 0,.int .i64 0,.slice none 0 0,.slice none 0 0,.slice none 0 0,.slice none 0 0,.slice none 0 0];have aS:w3.heap.size≤x.heap.size:=hW.size;have H:Below x.heap.size x (x.alloc (.cells #[.int .i64 0,.int .i64 0,.int .i64 0,.int .i64 0,.slice none 0 0,.slice none 0 0,.slice none 0 0,.slice none 0 0,.slice none 0 0] 35)):=by go_grown
     replace t1:=t1.below H;replace hW:=hW.trans (H.mono hW.size);clear H
     go_wp2
     refine ThenGo.to ⟨⟨⟨_,hW⟩,rfl⟩,?_⟩;generalize af:x.heap.size=g at*;clear af;generalize x.alloc (.cells #[.int .i64 0,.int .i64 0,.int .i64 0,.int .i64 0,.slice none 0 0,.slice none 0 0,.slice none 0 0,.slice none 0 0,.slice none 0 0] 35)=x at*
   all_goals first|refine cla 3 (some 35) 38 #[.agg #[.int .i64 kn,.int .i64 sf,.slice da done.length dk,.slice ba X.length bk,.slice ta Z.length tk,.slice ua T.length uk,.slice na aB.length nk]] 3 (by kernel_rfl) ?_|refine opc 3 (some 35) 38 #[.agg #[.int .i64 kn,.int .i64 sf,.slice da done.length dk,.slice ba X.length bk,.slice ta Z.length tk,.slice ua T.length uk,.slice na aB.length nk]] (by kernel_rfl) ?_
   all_goals
     refine(be.out _ (bt.out _ (b0.trans (hW.mono b0.size))) aD).mono ?_;rintro e x ⟨q1,rfl,e1,o1,_,_,hb⟩;replace t1:=t1.below hb;try replace Bz:=Bz.below hb
     replace hW:=hW.trans (hb.mono hW.size);clear hb;refine⟨_,rfl,⟨⟨_,hW⟩,rfl⟩,?_⟩;simp only[Act.put,pgE,pjE]
   rotate_right
   refine twa 5 7 3 (by kernel_rfl) ?_ ?_
   rotate_left
   focus
     refine z0L 7 _ rfl ?_;have Bz:=Blk.new x 35 #[.int .i64 0,.int .i64 0,.int .i64 0,.int .i64 0,.slice none 0 0,.slice none 0 0,.slice none 0 0,.slice none 0 0,.slice none 0 0];have aS:w3.heap.size≤x.heap.size:=hW.size;have H:Below x.heap.size x (x.alloc (.cells #[.int .i64 0,.int .i64 0,.int .i64 0,.int .i64 0,.slice none 0 0,.slice none 0 0,.slice none 0 0,.slice none 0 0,.slice none 0 0] 35)):=by go_grown
     replace t1:=t1.below H;replace o1:=z44 o1 H;replace hW:=hW.trans (H.mono hW.size);clear H
     go_wp2
     refine ThenGo.to ⟨⟨⟨_,hW⟩,rfl⟩,?_⟩;generalize af:x.heap.size=g at*;clear af;generalize x.alloc (.cells #[.int .i64 0,.int .i64 0,.int .i64 0,.int .i64 0,.slice none 0 0,.slice none 0 0,.slice none 0 0,.slice none 0 0,.slice none 0 0] 35)=x at*
   all_goals first|refine cla 5 (some 37) 47 #[.agg #[.int .i64 ti,.int .i64 ts,.int .i64 tq,.slice aP V.length aQ]] 2 (by kernel_rfl) ?_|refine opc 5 (some 37) 47 #[.agg #[.int .i64 ti,.int .i64 ts,.int .i64 tq,.slice aP V.length aQ]] (by kernel_rfl) ?_
   all_goals
     refine(bg.out _ (bv.out _ (b0.trans (hW.mono b0.size))) aX).mono ?_;rintro e x ⟨tx,rfl,et,ot,_,_,hb⟩;replace t1:=t1.below hb;replace o1:=z44 o1 hb;try replace Bz:=Bz.below hb
     replace hW:=hW.trans (hb.mono hW.size);clear hb;refine⟨_,rfl,⟨⟨_,hW⟩,rfl⟩,?_⟩;simp only[Act.put,pgE,pjE]
   rotate_right
   refine twa 6 7 2 (by kernel_rfl) ?_ ?_
   rotate_left
   focus
     refine z0L 7 _ rfl ?_;have Bz:=Blk.new x 35 #[.int .i64 0,.int .i64 0,.int .i64 0,.int .i64 0,.slice none 0 0,.slice none 0 0,.slice none 0 0,.slice none 0 0,.slice none 0 0];have aS:w3.heap.size≤x.heap.size:=hW.size;have H:Below x.heap.size x (x.alloc (.cells #[.int .i64 0,.int .i64 0,.int .i64 0,.int .i64 0,.slice none 0 0,.slice none 0 0,.slice none 0 0,.slice none 0 0,.slice none 0 0] 35)):=by go_grown
     replace t1:=t1.below H;replace o1:=z44 o1 H;replace ot:=z46 ot H;replace hW:=hW.trans (H.mono hW.size);clear H
     go_wp2
     refine ThenGo.to ⟨⟨⟨_,hW⟩,rfl⟩,?_⟩;generalize af:x.heap.size=g at*;clear af;generalize x.alloc (.cells #[.int .i64 0,.int .i64 0,.int .i64 0,.int .i64 0,.slice none 0 0,.slice none 0 0,.slice none 0 0,.slice none 0 0,.slice none 0 0] 35)=x at*
   all_goals first|refine cla 6 (some 38) 16 #[.slice xa c1.length xc,.agg #[.int .i64 kn,.int .i64 sf,q1.vd,q1.vb,q1.vt,q1.vu,q1.vn],.agg #[.int .i64 tx.i,.int .i64 tx.s,.int .i64 tx.q,tx.va]] 1 (by kernel_rfl) ?_|refine opc 6 (some 38) 16 #[.slice xa c1.length xc,.agg #[.int .i64 kn,.int .i64 sf,q1.vd,q1.vb,q1.vt,q1.vu,q1.vn],.agg #[.int .i64 tx.i,.int .i64 tx.s,.int .i64 tx.q,tx.va]] (by kernel_rfl) ?_
   all_goals
     refine(bZ.out _ c1 q1 tx f1 e1 et _ t1 (by rw[a4.out c1 f1];exact hl) o1 (by rw[bG.out q1 e1];exact aD) ot (by rw[bI.out tx et];exact aX)).mono ?_;rintro e x ⟨qs,rfl,es,os,bp,gs,hb⟩;have bJ:∀k∈repK.foot qs,w3.heap.size≤k:=fun k hk=>by have:=gs k hk;have:=hW.size;omega
     try have a5:∀k∈repK.foot qs,k≠g:=fun k hk=>by have:=gs k hk;have:=Bz.lt;omega
     obtain⟨cE,l,cA,j,cM,m,cQ,d,cI,C⟩:=qs;obtain⟨ad,ae,rfl⟩:∃a c,cE=.slice a l.length c:=os.1.shape;obtain⟨aa,ab,rfl⟩:∃a c,cA=.slice a j.length c:=os.2.1.shape;obtain⟨aj,ak,rfl⟩:∃a c,cM=.slice a m.length c:=os.2.2.1.shape;obtain⟨al,am,rfl⟩:∃a c,cQ=.slice a d.length c:=os.2.2.2.1.shape;obtain⟨ah,ai,rfl⟩:∃a c,cI=.slice a C.length c:=os.2.2.2.2.shape;dsimp only;try replace Bz:=Bz.below hb
     replace hW:=hW.trans (hb.mono hW.size);clear hb;refine⟨_,rfl,⟨⟨_,hW⟩,rfl⟩,?_⟩;simp only[Act.put,pgE,pjE]
   rotate_right
   focus
     refine ona 7 1 rfl (by kernel_rfl) ?_;have Bz:=Blk.new x 35 #[.int .i64 0,.int .i64 0,.int .i64 0,.int .i64 0,.slice none 0 0,.slice none 0 0,.slice none 0 0,.slice none 0 0,.slice none 0 0];have aS:w3.heap.size≤x.heap.size:=hW.size;have H:Below x.heap.size x (x.alloc (.cells #[.int .i64 0,.int .i64 0,.int .i64 0,.int .i64 0,.slice none 0 0,.slice none 0 0,.slice none 0 0,.slice none 0 0,.slice none 0 0] 35)):=by go_grown
     have a5:∀k∈repK.foot (⟨.slice ad l.length ae,l,.slice aa j.length ab,j,.slice aj m.length ak,m,.slice al d.length am,d,.slice ah C.length ai,C⟩:RepQ),k≠x.heap.size:=fun k hk=>by have:=repK.own_lt os k hk;omega
     replace os:=z44 os H;replace hW:=hW.trans (H.mono hW.size);clear H
     go_wp2
     refine ThenGo.to ⟨⟨⟨_,hW⟩,rfl⟩,?_⟩;generalize af:x.heap.size=g at*;clear af;generalize x.alloc (.cells #[.int .i64 0,.int .i64 0,.int .i64 0,.int .i64 0,.slice none 0 0,.slice none 0 0,.slice none 0 0,.slice none 0 0,.slice none 0 0] 35)=x at*
   all_goals
     refine ona 8 0 rfl (by kernel_rfl) ?_;have bh:w3.heap.size≤g:=by omega
     have Rz:=Bz.row #[.int .i64 D,.int .i64 A,.int .i64 K1,.int .i64 K2,.slice ad l.length ae,.slice aa j.length ab,.slice aj m.length ak,.slice al d.length am,.slice ah C.length ai];have oz:=repK.own_out os (z1I _ g #[.int .i64 D,.int .i64 A,.int .i64 K1,.int .i64 K2,.slice ad l.length ae,.slice aa j.length ab,.slice aj m.length ak,.slice al d.length am,.slice ah C.length ai]) (fun k hk=>by simp only[List.mem_singleton];exact a5 k hk);replace hW:=z0j hW bh #[.int .i64 D,.int .i64 A,.int .i64 K1,.int .i64 K2,.slice ad l.length ae,.slice aa j.length ab,.slice aj m.length ak,.slice al d.length am,.slice ah C.length ai];refine z0r (by kernel_rfl) 35 _ _ rfl _ #[.int .i64 D,.int .i64 A,.int .i64 K1,.int .i64 K2,.slice ad l.length ae,.slice aa j.length ab,.slice aj m.length ak,.slice al d.length am,.slice ah C.length ai] rfl rfl 35 _ Bz q6C rfl (by simp[Value.oneCell']) ?_;refine ThenGo.to ⟨⟨⟨_,hW⟩,rfl⟩,?_⟩;refine z0e (by kernel_rfl) ?_;refine⟨rfl,_,⟨.slice xa c1.length xc,.agg #[.int .i64 kn,.int .i64 sf,q1.vd,q1.vb,q1.vt,q1.vu,q1.vn],.agg #[.int .i64 tx.i,.int .i64 tx.s,.int .i64 tx.q,tx.va],ad,ae,l,aa,ab,j,aj,ak,m,al,am,d,ah,ai,C,g,rfl,bh,Rz,es,oz,fun k hk=>⟨bJ k hk,a5 k hk⟩,bp,hW⟩,?_⟩;simp only[z0P,Act.put,pgE,pjE];try rfl
  rintro vs w5 ⟨bq,br,bs,ad,ae,l,aa,ab,j,aj,ak,m,al,am,d,ah,ai,C,gs,rfl,cj,Ss,es,os,bK,bp,aA⟩;simp only[z0P,Act.put,pjE];clear k0 k1 k2 k3 k4 k5 k6 m0 m1 m2 m3;have db:=A1.lt;replace A0:=A0.below aA;replace A1:=A1.below aA;replace b0:=b0.trans (aA.mono b0.size);clear aA;have S0:=Ss;clear Ss bp;have b2:=S0.lt;have dj:=b0.size;have us:∀k∈repK.foot (⟨.slice ad l.length ae,l,.slice aa j.length ab,j,.slice aj m.length ak,m,.slice al d.length am,d,.slice ah C.length ai,C⟩:RepQ),w.heap.size+1<k∧k<w5.heap.size∧k≠gs:=fun k hk=>⟨by have:=bK k hk;omega,repK.own_lt os k hk,(bK k hk).2⟩
  have cX:w.heap.size+1<gs∧gs<w5.heap.size:=⟨by omega,b2⟩
  have df:RepQ.n (⟨.slice ad l.length ae,l,.slice aa j.length ab,j,.slice aj m.length ak,m,.slice al d.length am,d,.slice ah C.length ai,C⟩:RepQ)≤1048576:=bH.out _ es;clear bK bZ cj
  go_wp2_with fail
  refine(bf.out _ (bu.out _ b0) hl).mono ?_;rintro e w6 ⟨v2,c2,rfl,f2,t2,cw,b1,hb⟩;have c6:=hb.size;have ut:∀k∈instK.fp v2 c2,w5.heap.size≤k∧k<w6.heap.size:=fun k hk=>⟨b1 k hk,t2.lt k hk⟩
  obtain⟨ya,yc,rfl⟩:=t2.shape;clear b1;replace A0:=A0.below hb;replace A1:=A1.below hb;replace S0:=S0.below hb;replace os:=z44 os hb;replace b0:=b0.trans (hb.mono b0.size);clear hb;obtain⟨p0,p1,p2,p3,p4,p5,p6⟩:=A0.cel7
  go_wp2_with fail
  clear p0 p1 p2 p3 p4 p5 p6;refine(be.out _ (bt.out _ b0) aD).mono ?_;rintro e w7 ⟨q2,rfl,e2,o2,n2,g2,hb⟩;have c7:=hb.size;have u2:∀k∈repK.foot q2,w6.heap.size≤k∧k<w7.heap.size:=fun k hk=>⟨g2 k hk,repK.own_lt o2 k hk⟩
  replace A0:=A0.below hb;replace A1:=A1.below hb;replace S0:=S0.below hb;replace os:=z44 os hb;replace t2:=t2.below hb;replace b0:=b0.trans (hb.mono b0.size);clear hb;clear g2;have bQ:RepQ.n q2≤1048576:=by rw[bG.out q2 e2];exact aD
  have bO:=fun v qs b hq hb w hG hE h hl h' hT ht=>bF.out v qs q2 b hq e2 hb w hG hE h hl h' bQ hT ht
  have bL:=fun q' aR w h h'=>cd.out q2 q' e2 aR w h h' bQ
  obtain⟨cB,P,cx,O,cJ,Q,cN,M,cF,Y⟩:=q2;obtain⟨aV,aW,rfl⟩:∃a c,cB=.slice a P.length c:=o2.1.shape;obtain⟨aT,aU,rfl⟩:∃a c,cx=.slice a O.length c:=o2.2.1.shape;obtain⟨a0,a1,rfl⟩:∃a c,cJ=.slice a Q.length c:=o2.2.2.1.shape;obtain⟨a2,a3,rfl⟩:∃a c,cN=.slice a M.length c:=o2.2.2.2.1.shape;obtain⟨aY,aZ,rfl⟩:∃a c,cF=.slice a Y.length c:=o2.2.2.2.2.shape;dsimp only at bO bL;have bX:Hid _:=bO;have bU:Hid _:=bL;clear bO bL;have X0:=Blk.new w7 31 #[.int .i64 kn,.int .i64 sf,.slice aV P.length aW,.slice aT O.length aU,.slice a0 Q.length a1,.slice a2 M.length a3,.slice aY Y.length aZ];have hb:Below w7.heap.size w7 (w7.alloc (.cells #[.int .i64 kn,.int .i64 sf,.slice aV P.length aW,.slice aT O.length aU,.slice a0 Q.length a1,.slice a2 M.length a3,.slice aY Y.length aZ] 31)):=by go_grown
  replace A0:=A0.below hb;replace A1:=A1.below hb;replace S0:=S0.below hb;replace os:=z44 os hb;replace o2:=z44 o2 hb;replace t2:=t2.below hb;replace b0:=b0.trans (hb.mono b0.size);clear hb;obtain⟨p0,p1,p2,p3⟩:=A1.cel4
  go_wp2_with fail
  clear p0 p1 p2 p3;generalize w7.alloc (.cells #[.int .i64 kn,.int .i64 sf,.slice aV P.length aW,.slice aT O.length aU,.slice a0 Q.length a1,.slice a2 M.length a3,.slice aY Y.length aZ] 31)=W7 at*;have dc:=X0.lt;refine(bg.out W7 (bv.out W7 b0) aX).mono ?_;rintro e w8 ⟨t3,rfl,e3,o3,n3,g3,hb⟩;have c8:=hb.size;have u3:∀k∈txnK.foot t3,W7.heap.size≤k∧k<w8.heap.size:=fun k hk=>⟨g3 k hk,txnK.own_lt o3 k hk⟩
  replace A0:=A0.below hb;replace A1:=A1.below hb;replace S0:=S0.below hb;replace X0:=X0.below hb;replace os:=z44 os hb;replace o2:=z44 o2 hb;replace t2:=t2.below hb;replace b0:=b0.trans (hb.mono b0.size);clear hb;clear g3 n3;have bw:TxnQ.n t3≤1048576:=by rw[bI.out t3 e3];exact aX
  have bP:=fun v qs hq w hG hE h hl h' hT=>bX.out v qs t3 hq e3 w hG hE h hl h' hT bw
  have bM:=fun q' aR w h h'=>ce.out t3 q' e3 aR w h h' bw
  obtain⟨i3,s3,q3,cb,U⟩:=t3;obtain⟨a8,a9,rfl⟩:∃a c,cb=.slice a U.length c:=(show actK.At w8 cb U from txnK.own_rd o3).shape;dsimp only at bP bM;have bY:Hid _:=bP;have bV:Hid _:=bM;clear bP bM bX;have X1:=Blk.new w8 39 #[.int .i64 i3,.int .i64 s3,.int .i64 q3,.slice a8 U.length a9];have hb:Below w8.heap.size w8 (w8.alloc (.cells #[.int .i64 i3,.int .i64 s3,.int .i64 q3,.slice a8 U.length a9] 39)):=by go_grown
  replace A0:=A0.below hb;replace A1:=A1.below hb;replace S0:=S0.below hb;replace X0:=X0.below hb;replace os:=z44 os hb;replace o2:=z44 o2 hb;replace t2:=t2.below hb;replace o3:=z46 o3 hb;replace b0:=b0.trans (hb.mono b0.size);clear hb;obtain⟨p0,p1,p2,p3,p4,p5,p6⟩:=X0.cel7;obtain⟨r0,r1,r2,r3⟩:=X1.cel4
  go_wp2_with fail
  clear p0 p1 p2 p3 p4 p5 p6;clear r0 r1 r2 r3;generalize w8.alloc (.cells #[.int .i64 i3,.int .i64 s3,.int .i64 q3,.slice a8 U.length a9] 39)=W8 at*;have dd:=X1.lt;refine(bY.out _ c2 f2 _ (hG.below b0) (hE.below b0) t2 (by rw[a4.out c2 f2];exact hl) o2 o3).mono ?_;rintro e wv ⟨qi,rfl,ei,oi,ni,gi,hb⟩;have c9:=hb.size;have ui:∀k∈repK.foot qi,W8.heap.size≤k∧k<wv.heap.size:=fun k hk=>⟨gi k hk,repK.own_lt oi k hk⟩
  replace A0:=A0.below hb;replace A1:=A1.below hb;replace S0:=S0.below hb;replace X0:=X0.below hb;replace X1:=X1.below hb;replace os:=z44 os hb;replace o2:=z44 o2 hb;replace t2:=t2.below hb;replace o3:=z46 o3 hb;replace b0:=b0.trans (hb.mono b0.size);clear hb;clear gi bY;have bx:RepQ.n qi≤1048576:=bH.out qi ei;obtain⟨cD,J,cz,I,cL,K,cP,o,cH,N⟩:=qi;obtain⟨aG,aH,rfl⟩:∃a c,cD=.slice a J.length c:=oi.1.shape;obtain⟨aE,aF,rfl⟩:∃a c,cz=.slice a I.length c:=oi.2.1.shape;obtain⟨aL,aM,rfl⟩:∃a c,cL=.slice a K.length c:=oi.2.2.1.shape;obtain⟨aN,aO,rfl⟩:∃a c,cP=.slice a o.length c:=oi.2.2.2.1.shape;obtain⟨aJ,aK,rfl⟩:∃a c,cH=.slice a N.length c:=oi.2.2.2.2.shape;have Y0:=Blk.new wv 35 #[.int .i64 D,.int .i64 A,.int .i64 K1,.int .i64 K2,.slice aG J.length aH,.slice aE I.length aF,.slice aL K.length aM,.slice aN o.length aO,.slice aJ N.length aK];have hb:Below wv.heap.size wv (wv.alloc (.cells #[.int .i64 D,.int .i64 A,.int .i64 K1,.int .i64 K2,.slice aG J.length aH,.slice aE I.length aF,.slice aL K.length aM,.slice aN o.length aO,.slice aJ N.length aK] 35)):=by go_grown
  replace A0:=A0.below hb;replace A1:=A1.below hb;replace S0:=S0.below hb;replace X0:=X0.below hb;replace X1:=X1.below hb;replace os:=z44 os hb;replace o2:=z44 o2 hb;replace oi:=z44 oi hb;replace t2:=t2.below hb;replace o3:=z46 o3 hb;replace b0:=b0.trans (hb.mono b0.size);clear hb;obtain⟨r0,r1,r2,r3,r4,r5,r6,r7,r8⟩:=S0.cel9
  go_wp2_with fail
  clear r0 r1 r2 r3 r4 r5 r6 r7 r8;generalize wv.alloc (.cells #[.int .i64 D,.int .i64 A,.int .i64 K1,.int .i64 K2,.slice aG J.length aH,.slice aE I.length aF,.slice aL K.length aM,.slice aN o.length aO,.slice aJ N.length aK] 35)=W9 at*;refine(q2G D A K1 K2 (⟨.slice aG J.length aH,J,.slice aE I.length aF,I,.slice aL K.length aM,K,.slice aN o.length aO,o,.slice aJ N.length aK,N⟩:RepQ) (⟨.slice ad l.length ae,l,.slice aa j.length ab,j,.slice aj m.length ak,m,.slice al d.length am,d,.slice ah C.length ai,C⟩:RepQ) _ (repK.own_rd oi) (repK.own_rd os) (ei.trans es.symm) bx).mono ?_;rintro e dm ⟨rfl,hb⟩;replace A0:=A0.below hb;replace A1:=A1.below hb;replace S0:=S0.below hb;replace X0:=X0.below hb;replace X1:=X1.below hb;replace Y0:=Y0.below hb;replace os:=z44 os hb;replace o2:=z44 o2 hb;replace oi:=z44 oi hb;replace t2:=t2.below hb;replace o3:=z46 o3 hb;replace b0:=b0.trans (hb.mono b0.size);clear hb
  go_wp2_with fail
  refine(bf.out _ (bu.out _ b0) hl).mono ?_;rintro e dn ⟨v3,c3,rfl,f3,t3,_,_,hb⟩;obtain⟨za,zc,rfl⟩:=t3.shape;replace A0:=A0.below hb;replace A1:=A1.below hb;replace S0:=S0.below hb;replace X0:=X0.below hb;replace X1:=X1.below hb;replace Y0:=Y0.below hb;replace os:=z44 os hb;replace o2:=z44 o2 hb;replace oi:=z44 oi hb;replace t2:=t2.below hb;replace o3:=z46 o3 hb;replace b0:=b0.trans (hb.mono b0.size);clear hb
  go_wp2_with fail
  refine(bW.out _ _ c2 c3 f2 f3 _ t2.at t3.at (by rw[a4.out c2 f2];exact hl)).mono ?_;rintro e bb ⟨rfl,hb⟩;clear t3 f3;replace A0:=A0.below hb;replace A1:=A1.below hb;replace S0:=S0.below hb;replace X0:=X0.below hb;replace X1:=X1.below hb;replace Y0:=Y0.below hb;replace os:=z44 os hb;replace o2:=z44 o2 hb;replace oi:=z44 oi hb;replace t2:=t2.below hb;replace o3:=z46 o3 hb;replace b0:=b0.trans (hb.mono b0.size);clear hb;clear bW
  go_wp2_with fail
  have hW:Below bb.heap.size bb bb.drew:=(Below.refl _ _).drew;have bi:Nonempty (Lat bb):=⟨⟨bb,Below.refl _ _⟩⟩
  obtain⟨k0,k1,k2,k3,k4,k5,k6⟩:=A0.lts7;obtain⟨l0,l1,l2,l3,l4,l5,l6⟩:=X0.lts7;refine z0b (S:=fun w'=>∃u:Lat bb,w'=u.val) (by kernel_rfl) ?_;refine sgr [(0,2)] 3 (by kernel_rfl) ⟨⟨_,hW⟩,rfl⟩ ?_;simp only[pkE];repeat go_big_quiet_step (fail)
  refine wpQuiet_nil ?_;refine cla 2 (some 60) 38 #[.agg #[.int .i64 kn,.int .i64 sf,.slice da done.length dk,.slice ba X.length bk,.slice ta Z.length tk,.slice ua T.length uk,.slice na aB.length nk]] 2 (by kernel_rfl) ?_;refine(be.out _ (bt.out _ (b0.trans (hW.mono b0.size))) aD).mono ?_;rintro e w9 ⟨q9,rfl,e9,o9,_,_,aI⟩;replace hW:=hW.trans (aI.mono hW.size);clear aI;refine⟨_,rfl,⟨⟨_,hW⟩,rfl⟩,?_⟩;simp only[Act.put,pjE];refine cla 3 (some 61) 41 #[.agg #[.int .i64 kn,.int .i64 sf,.slice aV P.length aW,.slice aT O.length aU,.slice a0 Q.length a1,.slice a2 M.length a3,.slice aY Y.length aZ],.agg #[.int .i64 kn,.int .i64 sf,q9.vd,q9.vb,q9.vt,q9.vu,q9.vn]] 1 (by kernel_rfl) ?_;refine(bU.out q9 e9 _ (repK.rd_below (repK.own_rd o2) hW) (repK.own_rd o9)).mono ?_;rintro e bc ⟨rfl,aI⟩;replace hW:=hW.trans (aI.mono hW.size);clear aI;refine⟨_,rfl,⟨⟨_,hW⟩,rfl⟩,?_⟩;simp only[Act.put,pjE];refine sgr [(4,1)] 0 (by kernel_rfl) ⟨⟨_,hW⟩,rfl⟩ ?_;simp only[pkE];repeat go_big_quiet_step (fail)
  refine wpQuiet_nil ?_;refine z0e (by kernel_rfl) ?_;clear bi k0 k1 k2 k3 k4 k5 k6 l0 l1 l2 l3 l4 l5 l6;clear o9 e9 bU;replace A0:=A0.below hW;replace A1:=A1.below hW;replace S0:=S0.below hW;replace X0:=X0.below hW;replace X1:=X1.below hW;replace Y0:=Y0.below hW;replace os:=z44 os hW;replace o2:=z44 o2 hW;replace oi:=z44 oi hW;replace t2:=t2.below hW;replace o3:=z46 o3 hW;replace b0:=b0.trans (hW.mono b0.size);clear hW
  go_wp2_with fail
  have hW:Below bc.heap.size bc bc.drew:=(Below.refl _ _).drew;have bi:Nonempty (Lat bc):=⟨⟨bc,Below.refl _ _⟩⟩
  obtain⟨k0,k1,k2,k3⟩:=A1.lts4;obtain⟨l0,l1,l2,l3⟩:=X1.lts4;refine z0b (S:=fun w'=>∃u:Lat bc,w'=u.val) (by kernel_rfl) ?_;refine sgr [(0,2)] 3 (by kernel_rfl) ⟨⟨_,hW⟩,rfl⟩ ?_;simp only[pkE];repeat go_big_quiet_step (fail)
  refine wpQuiet_nil ?_;refine cla 2 (some 65) 47 #[.agg #[.int .i64 ti,.int .i64 ts,.int .i64 tq,.slice aP V.length aQ]] 2 (by kernel_rfl) ?_;refine(bg.out _ (bv.out _ (b0.trans (hW.mono b0.size))) aX).mono ?_;rintro e w9 ⟨q9,rfl,e9,o9,_,_,aI⟩;replace hW:=hW.trans (aI.mono hW.size);clear aI;refine⟨_,rfl,⟨⟨_,hW⟩,rfl⟩,?_⟩;simp only[Act.put,pjE];refine cla 3 (some 66) 48 #[.agg #[.int .i64 i3,.int .i64 s3,.int .i64 q3,.slice a8 U.length a9],.agg #[.int .i64 q9.i,.int .i64 q9.s,.int .i64 q9.q,q9.va]] 1 (by kernel_rfl) ?_;refine(bV.out q9 e9 _ (txnK.rd_below (txnK.own_rd o3) hW) (txnK.own_rd o9)).mono ?_;rintro e cR ⟨rfl,aI⟩;replace hW:=hW.trans (aI.mono hW.size);clear aI;refine⟨_,rfl,⟨⟨_,hW⟩,rfl⟩,?_⟩;simp only[Act.put,pjE];refine sgr [(4,1)] 0 (by kernel_rfl) ⟨⟨_,hW⟩,rfl⟩ ?_;simp only[pkE];repeat go_big_quiet_step (fail)
  refine wpQuiet_nil ?_;refine z0e (by kernel_rfl) ?_;clear bi k0 k1 k2 k3 l0 l1 l2 l3;clear o9 e9 bV;replace A0:=A0.below hW;replace A1:=A1.below hW;replace S0:=S0.below hW;replace X0:=X0.below hW;replace X1:=X1.below hW;replace Y0:=Y0.below hW;replace os:=z44 os hW;replace o2:=z44 o2 hW;replace oi:=z44 oi hW;replace t2:=t2.below hW;replace o3:=z46 o3 hW;replace b0:=b0.trans (hW.mono b0.size);clear hW
  go_wp2_with fail
  have co:=q2q c2;refine(z5N (.slice ya c2.length yc) c2 1 cR t2 cw (by rw[a4.out c2 f2];exact hl) (by omega) (by have:=a4.out c2 f2;omega)).mono ?_;rintro e cS ⟨rfl,_,hU⟩;have G:∀k,k∈instK.fp (.slice ya c2.length yc) c2→w5.heap.size≤k∧k<w6.heap.size:=ut;replace A0:=A0.outs9 hU (fun hk=>by have:=G _ hk;omega);replace A1:=A1.outs9 hU (fun hk=>by have:=G _ hk;omega);replace S0:=S0.outs9 hU (fun hk=>by have:=G _ hk;omega);replace X0:=X0.outs9 hU (fun hk=>by have:=G _ hk;omega);replace X1:=X1.outs9 hU (fun hk=>by have:=G _ hk;omega);replace Y0:=Y0.outs9 hU (fun hk=>by have:=G _ hk;omega);replace os:=repK.own_out os hU (fun k hk ag=>by have:=G _ ag;have:=us k hk;omega);replace o2:=repK.own_out o2 hU (fun k hk ag=>by have:=G _ ag;have:=u2 k hk;omega);replace oi:=repK.own_out oi hU (fun k hk ag=>by have:=G _ ag;have:=ui k hk;omega);replace o3:=txnK.own_out o3 hU (fun k hk ag=>by have:=G _ ag;have:=u3 k hk;omega);replace b0:=Out.keep b0 hU b0.size (fun k hk=>by have:=G _ hk;omega);clear G hU;clear t2;generalize cf:(nmL nmInsS c2:Int)=M1 at*;have dg:0≤M1∧M1≤4194304:=by have:=a4.out c2 f2;omega
  clear co cf f2;obtain⟨p0,p1,p2,p3,p4,p5,p6⟩:=X0.cel7
  go_wp2_with fail
  clear p0 p1 p2 p3 p4 p5 p6;have cl:=z8Z (⟨.slice aV P.length aW,P,.slice aT O.length aU,O,.slice a0 Q.length a1,Q,.slice a2 M.length a3,M,.slice aY Y.length aZ,Y⟩:RepQ);refine(z6S kn sf (⟨.slice aV P.length aW,P,.slice aT O.length aU,O,.slice a0 Q.length a1,Q,.slice a2 M.length a3,M,.slice aY Y.length aZ,Y⟩:RepQ) (1+M1) cS o2 n2 bQ (by omega) (by omega)).mono ?_;rintro e cT ⟨rfl,_,hU⟩;have G:∀k,k∈repK.foot (⟨.slice aV P.length aW,P,.slice aT O.length aU,O,.slice a0 Q.length a1,Q,.slice a2 M.length a3,M,.slice aY Y.length aZ,Y⟩:RepQ)→w6.heap.size≤k∧k<w7.heap.size:=u2;replace A0:=A0.outs9 hU (fun hk=>by have:=G _ hk;omega);replace A1:=A1.outs9 hU (fun hk=>by have:=G _ hk;omega);replace S0:=S0.outs9 hU (fun hk=>by have:=G _ hk;omega);replace X0:=X0.outs9 hU (fun hk=>by have:=G _ hk;omega);replace X1:=X1.outs9 hU (fun hk=>by have:=G _ hk;omega);replace Y0:=Y0.outs9 hU (fun hk=>by have:=G _ hk;omega);replace os:=repK.own_out os hU (fun k hk ag=>by have:=G _ ag;have:=us k hk;omega);replace oi:=repK.own_out oi hU (fun k hk ag=>by have:=G _ ag;have:=ui k hk;omega);replace o3:=txnK.own_out o3 hU (fun k hk ag=>by have:=G _ ag;have:=u3 k hk;omega);replace b0:=Out.keep b0 hU b0.size (fun k hk=>by have:=G _ hk;omega);clear G hU;clear o2;generalize cg:(nmRep (⟨.slice aV P.length aW,P,.slice aT O.length aU,O,.slice a0 Q.length a1,Q,.slice a2 M.length a3,M,.slice aY Y.length aZ,Y⟩:RepQ):Int)=M2 at*;have cY:0≤M2∧M2≤4194304:=by omega
  clear cl cg;obtain⟨p0,p1,p2,p3⟩:=X1.cel4;have cm:U.length≤1048576:=bw
  go_wp2_with fail
  clear p0 p1 p2 p3;refine(z26 (⟨i3,s3,q3,.slice a8 U.length a9,U⟩:TxnQ) (1+M1+M2) cT o3 bw (by omega) (by omega)).mono ?_;rintro e dp ⟨rfl,hU⟩;have G:∀k,k∈txnK.foot (⟨i3,s3,q3,.slice a8 U.length a9,U⟩:TxnQ)→W7.heap.size≤k∧k<w8.heap.size:=u3;replace A0:=A0.outs9 hU (fun hk=>by have:=G _ hk;omega);replace A1:=A1.outs9 hU (fun hk=>by have:=G _ hk;omega);replace S0:=S0.outs9 hU (fun hk=>by have:=G _ hk;omega);replace X0:=X0.outs9 hU (fun hk=>by have:=G _ hk;omega);replace X1:=X1.outs9 hU (fun hk=>by have:=G _ hk;omega);replace Y0:=Y0.outs9 hU (fun hk=>by have:=G _ hk;omega);replace os:=repK.own_out os hU (fun k hk ag=>by have:=G _ ag;have:=us k hk;omega);replace oi:=repK.own_out oi hU (fun k hk ag=>by have:=G _ ag;have:=ui k hk;omega);replace b0:=Out.keep b0 hU b0.size (fun k hk=>by have:=G _ hk;omega);clear G hU;clear o3;generalize ch:((U.length*3:Nat):Int)=M3 at*;have cZ:0≤M3∧M3≤4194304:=by omega
  have c4:¬(1+M1+M2+M3<0):=by omega
  clear cm ch;obtain⟨p0,p1,p2,p3,p4,p5,p6,p7,p8⟩:=Y0.cel9;obtain⟨r0,r1,r2,r3,r4,r5,r6,r7,r8⟩:=S0.cel9
  go_wp2_with fail
  clear p0 p1 p2 p3 p4 p5 p6 p7 p8;clear r0 r1 r2 r3 r4 r5 r6 r7 r8;refine(q2G D A K1 K2 (⟨.slice aG J.length aH,J,.slice aE I.length aF,I,.slice aL K.length aM,K,.slice aN o.length aO,o,.slice aJ N.length aK,N⟩:RepQ) (⟨.slice ad l.length ae,l,.slice aa j.length ab,j,.slice aj m.length ak,m,.slice al d.length am,d,.slice ah C.length ai,C⟩:RepQ) _ (repK.own_rd oi) (repK.own_rd os) (ei.trans es.symm) bx).mono ?_;rintro e cU ⟨rfl,hb⟩;replace A0:=A0.below hb;replace A1:=A1.below hb;replace S0:=S0.below hb;replace X0:=X0.below hb;replace X1:=X1.below hb;replace Y0:=Y0.below hb;replace os:=z44 os hb;replace oi:=z44 oi hb;replace b0:=b0.trans (hb.mono b0.size);clear hb;obtain⟨p0,p1,p2,p3,p4,p5,p6,p7,p8⟩:=Y0.cel9
  go_wp2_with fail
  clear p0 p1 p2 p3 p4 p5 p6 p7 p8;have cn:=z8Z (⟨.slice aG J.length aH,J,.slice aE I.length aF,I,.slice aL K.length aM,K,.slice aN o.length aO,o,.slice aJ N.length aK,N⟩:RepQ);refine(q34 D A K1 K2 (⟨.slice aG J.length aH,J,.slice aE I.length aF,I,.slice aL K.length aM,K,.slice aN o.length aO,o,.slice aJ N.length aK,N⟩:RepQ) 1 cU oi ni bx (by omega) (by omega)).mono ?_;rintro e bd ⟨rfl,om,hU⟩;have G:∀k,k∈repK.foot (⟨.slice aG J.length aH,J,.slice aE I.length aF,I,.slice aL K.length aM,K,.slice aN o.length aO,o,.slice aJ N.length aK,N⟩:RepQ)→W8.heap.size≤k∧k<wv.heap.size:=ui;replace A0:=A0.outs9 hU (fun hk=>by have:=G _ hk;omega);replace A1:=A1.outs9 hU (fun hk=>by have:=G _ hk;omega);replace S0:=S0.outs9 hU (fun hk=>by have:=G _ hk;omega);replace X0:=X0.outs9 hU (fun hk=>by have:=G _ hk;omega);replace X1:=X1.outs9 hU (fun hk=>by have:=G _ hk;omega);replace Y0:=Y0.outs9 hU (fun hk=>by have:=G _ hk;omega);replace os:=repK.own_out os hU (fun k hk ag=>by have:=G _ ag;have:=us k hk;omega);replace b0:=Out.keep b0 hU b0.size (fun k hk=>by have:=G _ hk;omega);clear G hU;clear oi;have rm:=repK.own_rd om;clear om;have bR:Hid (∀w',Below bd.heap.size bd w'→repK.rd w' (mkRep 1 (⟨.slice aG J.length aH,J,.slice aE I.length aF,I,.slice aL K.length aM,K,.slice aN o.length aO,o,.slice aJ N.length aK,N⟩:RepQ))):=fun w' hb=>repK.rd_below rm hb
  have aC:Below bd.heap.size bd bd:=Below.refl _ _;have bC:=fun w h=>q35 D A K1 K2 (⟨.slice aG J.length aH,J,.slice aE I.length aF,I,.slice aL K.length aM,K,.slice aN o.length aO,o,.slice aJ N.length aK,N⟩:RepQ) 1 w h bx (by omega) (by omega)
  have bN:Hid _:=bC;clear bC;generalize ci:(nmRep (⟨.slice aG J.length aH,J,.slice aE I.length aF,I,.slice aL K.length aM,K,.slice aN o.length aO,o,.slice aJ N.length aK,N⟩:RepQ):Int)=Mi at*;have c0:0≤Mi∧Mi≤4194304:=by omega
  have di:¬(1+Mi<0):=by omega
  have dh:((1+Mi) !=(1+Mi))=false:=by simp
  clear cn ci rm;obtain⟨p0,p1,p2,p3,p4,p5,p6,p7,p8⟩:=Y0.cel9
  go_wp2_with fail
  clear p0 p1 p2 p3 p4 p5 p6 p7 p8;refine(bN.out bd (bR.out _ aC)).mono ?_;rintro e an ⟨rfl,hb⟩;replace aC:=aC.trans (hb.mono aC.size);replace A0:=A0.below hb;replace A1:=A1.below hb;replace S0:=S0.below hb;replace X0:=X0.below hb;replace X1:=X1.below hb;replace Y0:=Y0.below hb;replace os:=z44 os hb;replace b0:=b0.trans (hb.mono b0.size);clear hb
  go_wp2_with fail
  obtain⟨k0,k1,k2,k3,k4,k5,k6⟩:=A0.lts7;obtain⟨m0,m1,m2,m3⟩:=A1.lts4;refine z0T [some 96,some 97,some 98,some 99,some 100,some 101,some 102,some 16] (fun vs w'=>∃ (bq br bs:Value) (aq:Option Addr) (ar:Nat) (z:List TxnQ) (ao:Option Addr) (ap:Nat) (y:List ItemD) (aw:Option Addr) (ax:Nat) (B:List TxnQ) (ay:Option Addr) (az:Nat) (f:List USQ) (au:Option Addr) (av:Nat) (L:List ItemD) (g:Nat),vs=[.slice oa ps.length oc,bq,.agg #[.int .i64 kn,.int .i64 sf,.slice da done.length dk,.slice ba X.length bk,.slice ta Z.length tk,.slice ua T.length uk,.slice na aB.length nk],br,.agg #[.int .i64 ti,.int .i64 ts,.int .i64 tq,.slice aP V.length aQ],bs,.agg #[.int .i64 D,.int .i64 A,.int .i64 K1,.int .i64 K2,.slice aq z.length ar,.slice ao y.length ap,.slice aw B.length ax,.slice ay f.length az,.slice au L.length av],.pointer (some ⟨g,0,none⟩)]∧an.heap.size≤g∧Blk w' g 35 #[.int .i64 D,.int .i64 A,.int .i64 K1,.int .i64 K2,.slice aq z.length ar,.slice ao y.length ap,.slice aw B.length ax,.slice ay f.length az,.slice au L.length av]∧RepQ.e (⟨.slice aq z.length ar,z,.slice ao y.length ap,y,.slice aw B.length ax,B,.slice ay f.length az,f,.slice au L.length av,L⟩:RepQ)=E∧repK.own w' (⟨.slice aq z.length ar,z,.slice ao y.length ap,y,.slice aw B.length ax,B,.slice ay f.length az,f,.slice au L.length av,L⟩:RepQ)∧(∀k∈repK.foot (⟨.slice aq z.length ar,z,.slice ao y.length ap,y,.slice aw B.length ax,B,.slice ay f.length az,f,.slice au L.length av,L⟩:RepQ),an.heap.size≤k∧k≠g)∧(repK.foot (⟨.slice aq z.length ar,z,.slice ao y.length ap,y,.slice aw B.length ax,B,.slice ay f.length az,f,.slice au L.length av,L⟩:RepQ)).Nodup∧Below an.heap.size an w') ?_ ?_
  ·have hW:Below an.heap.size an an.drew:=(Below.refl _ _).drew;have bi:Nonempty (Lat an):=⟨⟨an,Below.refl _ _⟩⟩
   refine z0b (S:=fun w'=>∃u:Lat an,w'=u.val) (by kernel_rfl) ?_;refine sgr [(0,1),(2,1),(4,1)] 6 (by kernel_rfl) ⟨⟨_,hW⟩,rfl⟩ ?_;simp only[pkE];repeat go_big_quiet_step (fail)
   refine wpQuiet_nil ?_;clear k0 k1 k2 k3 k4 k5 k6 m0 m1 m2 m3;generalize an.drew=x at hW⊢;refine twa 1 7 5 (by kernel_rfl) ?_ ?_
   rotate_left
   focus
     refine z0L 7 _ rfl ?_;have Bz:=Blk.new x 35 #[.int .i64 0,.int .i64 0,.int .i64 0,.int .i64 0,.slice none 0 0,.slice none 0 0,.slice none 0 0,.slice none 0 0,.slice none 0 0];have aS:an.heap.size≤x.heap.size:=hW.size;have H:Below x.heap.size x (x.alloc (.cells #[.int .i64 0,.int .i64 0,.int .i64 0,.int .i64 0,.slice none 0 0,.slice none 0 0,.slice none 0 0,.slice none 0 0,.slice none 0 0] 35)):=by go_grown
     replace hW:=hW.trans (H.mono hW.size);clear H
     go_wp2
     refine ThenGo.to ⟨⟨⟨_,hW⟩,rfl⟩,?_⟩;generalize af:x.heap.size=g at*;clear af;generalize x.alloc (.cells #[.int .i64 0,.int .i64 0,.int .i64 0,.int .i64 0,.slice none 0 0,.slice none 0 0,.slice none 0 0,.slice none 0 0,.slice none 0 0] 35)=x at*
   all_goals first|refine cla 1 (some 97) 37 #[.slice oa ps.length oc] 4 (by kernel_rfl) ?_|refine opc 1 (some 97) 37 #[.slice oa ps.length oc] (by kernel_rfl) ?_
   all_goals
     refine(bf.out _ (bu.out _ (b0.trans (hW.mono b0.size))) hl).mono ?_;rintro e x ⟨v1,c1,rfl,f1,t1,_,_,hb⟩;obtain⟨xa,xc,rfl⟩:=t1.shape;try replace Bz:=Bz.below hb
     replace hW:=hW.trans (hb.mono hW.size);clear hb;refine⟨_,rfl,⟨⟨_,hW⟩,rfl⟩,?_⟩;simp only[Act.put,pgE,pjE]
   rotate_right
   refine twa 3 7 4 (by kernel_rfl) ?_ ?_
   rotate_left
   focus
     refine z0L 7 _ rfl ?_;have Bz:=Blk.new x 35 #[.int .i64 0,.int .i64 0,.int .i64 0,.int .i64 0,.slice none 0 0,.slice none 0 0,.slice none 0 0,.slice none 0 0,.slice none 0 0];have aS:an.heap.size≤x.heap.size:=hW.size;have H:Below x.heap.size x (x.alloc (.cells #[.int .i64 0,.int .i64 0,.int .i64 0,.int .i64 0,.slice none 0 0,.slice none 0 0,.slice none 0 0,.slice none 0 0,.slice none 0 0] 35)):=by go_grown
     replace t1:=t1.below H;replace hW:=hW.trans (H.mono hW.size);clear H
     go_wp2
     refine ThenGo.to ⟨⟨⟨_,hW⟩,rfl⟩,?_⟩;generalize af:x.heap.size=g at*;clear af;generalize x.alloc (.cells #[.int .i64 0,.int .i64 0,.int .i64 0,.int .i64 0,.slice none 0 0,.slice none 0 0,.slice none 0 0,.slice none 0 0,.slice none 0 0] 35)=x at*
   all_goals first|refine cla 3 (some 99) 38 #[.agg #[.int .i64 kn,.int .i64 sf,.slice da done.length dk,.slice ba X.length bk,.slice ta Z.length tk,.slice ua T.length uk,.slice na aB.length nk]] 3 (by kernel_rfl) ?_|refine opc 3 (some 99) 38 #[.agg #[.int .i64 kn,.int .i64 sf,.slice da done.length dk,.slice ba X.length bk,.slice ta Z.length tk,.slice ua T.length uk,.slice na aB.length nk]] (by kernel_rfl) ?_
   all_goals
     refine(be.out _ (bt.out _ (b0.trans (hW.mono b0.size))) aD).mono ?_;rintro e x ⟨q1,rfl,e1,o1,_,_,hb⟩;replace t1:=t1.below hb;try replace Bz:=Bz.below hb
     replace hW:=hW.trans (hb.mono hW.size);clear hb;refine⟨_,rfl,⟨⟨_,hW⟩,rfl⟩,?_⟩;simp only[Act.put,pgE,pjE]
   rotate_right
   refine twa 5 7 3 (by kernel_rfl) ?_ ?_
   rotate_left
   focus
     refine z0L 7 _ rfl ?_;have Bz:=Blk.new x 35 #[.int .i64 0,.int .i64 0,.int .i64 0,.int .i64 0,.slice none 0 0,.slice none 0 0,.slice none 0 0,.slice none 0 0,.slice none 0 0];have aS:an.heap.size≤x.heap.size:=hW.size;have H:Below x.heap.size x (x.alloc (.cells #[.int .i64 0,.int .i64 0,.int .i64 0,.int .i64 0,.slice none 0 0,.slice none 0 0,.slice none 0 0,.slice none 0 0,.slice none 0 0] 35)):=by go_grown
     replace t1:=t1.below H;replace o1:=z44 o1 H;replace hW:=hW.trans (H.mono hW.size);clear H
     go_wp2
     refine ThenGo.to ⟨⟨⟨_,hW⟩,rfl⟩,?_⟩;generalize af:x.heap.size=g at*;clear af;generalize x.alloc (.cells #[.int .i64 0,.int .i64 0,.int .i64 0,.int .i64 0,.slice none 0 0,.slice none 0 0,.slice none 0 0,.slice none 0 0,.slice none 0 0] 35)=x at*
   all_goals first|refine cla 5 (some 101) 47 #[.agg #[.int .i64 ti,.int .i64 ts,.int .i64 tq,.slice aP V.length aQ]] 2 (by kernel_rfl) ?_|refine opc 5 (some 101) 47 #[.agg #[.int .i64 ti,.int .i64 ts,.int .i64 tq,.slice aP V.length aQ]] (by kernel_rfl) ?_
   all_goals
     refine(bg.out _ (bv.out _ (b0.trans (hW.mono b0.size))) aX).mono ?_;rintro e x ⟨tx,rfl,et,ot,_,_,hb⟩;replace t1:=t1.below hb;replace o1:=z44 o1 hb;try replace Bz:=Bz.below hb
     replace hW:=hW.trans (hb.mono hW.size);clear hb;refine⟨_,rfl,⟨⟨_,hW⟩,rfl⟩,?_⟩;simp only[Act.put,pgE,pjE]
   rotate_right
   refine twa 6 7 2 (by kernel_rfl) ?_ ?_
   rotate_left
   focus
     refine z0L 7 _ rfl ?_;have Bz:=Blk.new x 35 #[.int .i64 0,.int .i64 0,.int .i64 0,.int .i64 0,.slice none 0 0,.slice none 0 0,.slice none 0 0,.slice none 0 0,.slice none 0 0];have aS:an.heap.size≤x.heap.size:=hW.size;have H:Below x.heap.size x (x.alloc (.cells #[.int .i64 0,.int .i64 0,.int .i64 0,.int .i64 0,.slice none 0 0,.slice none 0 0,.slice none 0 0,.slice none 0 0,.slice none 0 0] 35)):=by go_grown
     replace t1:=t1.below H;replace o1:=z44 o1 H;replace ot:=z46 ot H;replace hW:=hW.trans (H.mono hW.size);clear H
     go_wp2
     refine ThenGo.to ⟨⟨⟨_,hW⟩,rfl⟩,?_⟩;generalize af:x.heap.size=g at*;clear af;generalize x.alloc (.cells #[.int .i64 0,.int .i64 0,.int .i64 0,.int .i64 0,.slice none 0 0,.slice none 0 0,.slice none 0 0,.slice none 0 0,.slice none 0 0] 35)=x at*
   all_goals first|refine cla 6 (some 102) 15 #[.slice xa c1.length xc,.agg #[.int .i64 kn,.int .i64 sf,q1.vd,q1.vb,q1.vt,q1.vu,q1.vn],.agg #[.int .i64 tx.i,.int .i64 tx.s,.int .i64 tx.q,tx.va]] 1 (by kernel_rfl) ?_|refine opc 6 (some 102) 15 #[.slice xa c1.length xc,.agg #[.int .i64 kn,.int .i64 sf,q1.vd,q1.vb,q1.vt,q1.vu,q1.vn],.agg #[.int .i64 tx.i,.int .i64 tx.s,.int .i64 tx.q,tx.va]] (by kernel_rfl) ?_
   all_goals
     refine(bF.out _ c1 q1 tx f1 e1 et _ (hG.below (b0.trans (hW.mono b0.size))) (hE.below (b0.trans (hW.mono b0.size))) t1 (by rw[a4.out c1 f1];exact hl) o1 (by rw[bG.out q1 e1];exact aD) ot (by rw[bI.out tx et];exact aX)).mono ?_;rintro e x ⟨qh,rfl,es,oh,bp,gh,hb⟩;have bJ:∀k∈repK.foot qh,an.heap.size≤k:=fun k hk=>by have:=gh k hk;have:=hW.size;omega
     try have a5:∀k∈repK.foot qh,k≠g:=fun k hk=>by have:=gh k hk;have:=Bz.lt;omega
     obtain⟨cC,z,cy,y,cK,B,cO,f,cG,L⟩:=qh;obtain⟨aq,ar,rfl⟩:∃a c,cC=.slice a z.length c:=oh.1.shape;obtain⟨ao,ap,rfl⟩:∃a c,cy=.slice a y.length c:=oh.2.1.shape;obtain⟨aw,ax,rfl⟩:∃a c,cK=.slice a B.length c:=oh.2.2.1.shape;obtain⟨ay,az,rfl⟩:∃a c,cO=.slice a f.length c:=oh.2.2.2.1.shape;obtain⟨au,av,rfl⟩:∃a c,cG=.slice a L.length c:=oh.2.2.2.2.shape;dsimp only;try replace Bz:=Bz.below hb
     replace hW:=hW.trans (hb.mono hW.size);clear hb;refine⟨_,rfl,⟨⟨_,hW⟩,rfl⟩,?_⟩;simp only[Act.put,pgE,pjE]
   rotate_right
   focus
     refine ona 7 1 rfl (by kernel_rfl) ?_;have Bz:=Blk.new x 35 #[.int .i64 0,.int .i64 0,.int .i64 0,.int .i64 0,.slice none 0 0,.slice none 0 0,.slice none 0 0,.slice none 0 0,.slice none 0 0];have aS:an.heap.size≤x.heap.size:=hW.size;have H:Below x.heap.size x (x.alloc (.cells #[.int .i64 0,.int .i64 0,.int .i64 0,.int .i64 0,.slice none 0 0,.slice none 0 0,.slice none 0 0,.slice none 0 0,.slice none 0 0] 35)):=by go_grown
     have a5:∀k∈repK.foot (⟨.slice aq z.length ar,z,.slice ao y.length ap,y,.slice aw B.length ax,B,.slice ay f.length az,f,.slice au L.length av,L⟩:RepQ),k≠x.heap.size:=fun k hk=>by have:=repK.own_lt oh k hk;omega
     replace oh:=z44 oh H;replace hW:=hW.trans (H.mono hW.size);clear H
     go_wp2
     refine ThenGo.to ⟨⟨⟨_,hW⟩,rfl⟩,?_⟩;generalize af:x.heap.size=g at*;clear af;generalize x.alloc (.cells #[.int .i64 0,.int .i64 0,.int .i64 0,.int .i64 0,.slice none 0 0,.slice none 0 0,.slice none 0 0,.slice none 0 0,.slice none 0 0] 35)=x at*
   all_goals
     refine ona 8 0 rfl (by kernel_rfl) ?_;have bh:an.heap.size≤g:=by omega
     have Rz:=Bz.row #[.int .i64 D,.int .i64 A,.int .i64 K1,.int .i64 K2,.slice aq z.length ar,.slice ao y.length ap,.slice aw B.length ax,.slice ay f.length az,.slice au L.length av];have oz:=repK.own_out oh (z1I _ g #[.int .i64 D,.int .i64 A,.int .i64 K1,.int .i64 K2,.slice aq z.length ar,.slice ao y.length ap,.slice aw B.length ax,.slice ay f.length az,.slice au L.length av]) (fun k hk=>by simp only[List.mem_singleton];exact a5 k hk);replace hW:=z0j hW bh #[.int .i64 D,.int .i64 A,.int .i64 K1,.int .i64 K2,.slice aq z.length ar,.slice ao y.length ap,.slice aw B.length ax,.slice ay f.length az,.slice au L.length av];refine z0r (by kernel_rfl) 35 _ _ rfl _ #[.int .i64 D,.int .i64 A,.int .i64 K1,.int .i64 K2,.slice aq z.length ar,.slice ao y.length ap,.slice aw B.length ax,.slice ay f.length az,.slice au L.length av] rfl rfl 35 _ Bz q6C rfl (by simp[Value.oneCell']) ?_;refine ThenGo.to ⟨⟨⟨_,hW⟩,rfl⟩,?_⟩;refine z0e (by kernel_rfl) ?_;refine⟨rfl,_,⟨.slice xa c1.length xc,.agg #[.int .i64 kn,.int .i64 sf,q1.vd,q1.vb,q1.vt,q1.vu,q1.vn],.agg #[.int .i64 tx.i,.int .i64 tx.s,.int .i64 tx.q,tx.va],aq,ar,z,ao,ap,y,aw,ax,B,ay,az,f,au,av,L,g,rfl,bh,Rz,es,oz,fun k hk=>⟨bJ k hk,a5 k hk⟩,bp,hW⟩,?_⟩;simp only[z0P,Act.put,pgE,pjE];try rfl
  rintro vs dq ⟨bq,br,bs,aq,ar,z,ao,ap,y,aw,ax,B,ay,az,f,au,av,L,gh,rfl,de,Sh,eh,oh,c5,dl,aA⟩;simp only[z0P,Act.put,pjE];clear k0 k1 k2 k3 k4 k5 k6 m0 m1 m2 m3;replace aC:=aC.trans (aA.mono aC.size);replace A0:=A0.below aA;replace A1:=A1.below aA;replace S0:=S0.below aA;replace X0:=X0.below aA;replace X1:=X1.below aA;replace Y0:=Y0.below aA;replace os:=z44 os aA;replace b0:=b0.trans (aA.mono b0.size);clear aA;clear bF bf be bg;have ck:RepQ.n (⟨.slice aq z.length ar,z,.slice ao y.length ap,y,.slice aw B.length ax,B,.slice ay f.length az,f,.slice au L.length av,L⟩:RepQ)≤1048576:=bH.out _ eh;have H0:=Sh;clear Sh;obtain⟨p0,p1,p2,p3,p4,p5,p6,p7,p8⟩:=H0.cel9;obtain⟨r0,r1,r2,r3,r4,r5,r6,r7,r8⟩:=S0.cel9
  go_wp2_with fail
  clear p0 p1 p2 p3 p4 p5 p6 p7 p8;clear r0 r1 r2 r3 r4 r5 r6 r7 r8;refine(q2G D A K1 K2 (⟨.slice aq z.length ar,z,.slice ao y.length ap,y,.slice aw B.length ax,B,.slice ay f.length az,f,.slice au L.length av,L⟩:RepQ) (⟨.slice ad l.length ae,l,.slice aa j.length ab,j,.slice aj m.length ak,m,.slice al d.length am,d,.slice ah C.length ai,C⟩:RepQ) _ (repK.own_rd oh) (repK.own_rd os) (eh.trans es.symm) ck).mono ?_;rintro e cV ⟨rfl,hb⟩;replace aC:=aC.trans (hb.mono aC.size);replace A0:=A0.below hb;replace A1:=A1.below hb;replace S0:=S0.below hb;replace X0:=X0.below hb;replace X1:=X1.below hb;replace Y0:=Y0.below hb;replace H0:=H0.below hb;replace os:=z44 os hb;replace oh:=z44 oh hb;replace b0:=b0.trans (hb.mono b0.size);clear hb;obtain⟨p0,p1,p2,p3,p4,p5,p6,p7,p8⟩:=Y0.cel9
  go_wp2_with fail
  clear p0 p1 p2 p3 p4 p5 p6 p7 p8;refine(bN.out cV (bR.out _ aC)).mono ?_;rintro e dr ⟨rfl,hb⟩;replace b0:=b0.trans (hb.mono b0.size);clear hb bN bR aC A0 A1 S0 X0 X1 Y0 H0 os oh
  go_wp2
  go_ret;exact⟨rfl,b0⟩
end Go.Proofs.YtlkpdgjnhkjpjaaGreatDoor

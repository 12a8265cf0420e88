/- Texts joined,with what the laws reach alone. -/
import Derived.Test.YtciofogeiohleaaGreatDoorDEAI
set_option linter.unusedVariables false
set_option linter.unusedSimpArgs false
set_option maxRecDepth 100000
set_option maxHeartbeats 16000000
namespace Go.Proofs.YtciofogeiohleaaGreatDoor
open Go.RowKit Go.BigFrame
section
open Go.Maps
theorem z7w(a:Option Addr)(cap:Nat)(xs:List ItemD)(v:Value)(ds:List TxnD)(w:World)(h:ItemRow w a xs)(hN:z4Q a xs.length cap)(ht:TxnsAt w v ds)(h0:itemsF xs=0)(h2:idsC ds=0):
  Calls Tryz.prog 185 #[.slice a xs.length cap,v] w fun e w'=>∃a1 c1 a2 c2 a3 c3,e=.returned (.agg #[.int .i64 (eaC xs ds),.slice a1 (eaCd xs ds).length c1,.slice a2 (eaVl xs ds).length c2,.slice a3 (eaI xs ds).length c3])∧
   OwnA w.heap.size w'.heap.size w' (.slice a1 (eaCd xs ds).length c1) (.slice a2 (eaVl xs ds).length c2) (.slice a3 (eaI xs ds).length c3) (eaCd xs ds) (eaVl xs ds) (eaI xs ds)∧Below w.heap.size w w':=by
 obtain⟨h8,g⟩:=z1y h0;obtain⟨bj,hz⟩:=z4T h2;have HZ:Hid (∀t∈ds,t.F=0):=hz;have aZ:Hid (eaC xs ds=0∧eaCd xs ds=z1B xs ds∧eaVl xs ds=z1C xs ds∧eaI xs ds=allI xs ds):=z7o h0 h2;clear h0 h2 hz;obtain⟨i0,hi,aW,aX,aY⟩:=info_parts z5I;have aH:Below w.heap.size w ((w.alloc (.cells #[.int .i64 0,.slice none 0 0,.slice none 0 0,.slice none 0 0] 64)).alloc (.cells #[] 135)):=by go_grown
 have B0:=(Blk.new w 64 #[.int .i64 0,.slice none 0 0,.slice none 0 0,.slice none 0 0]).below (w':=(w.alloc (.cells #[.int .i64 0,.slice none 0 0,.slice none 0 0,.slice none 0 0] 64)).alloc (.cells #[] 135)) (by go_grown);have aK:=World.ownsRow_lit (size:=2) (e:=135) (w.alloc (.cells #[.int .i64 0,.slice none 0 0,.slice none 0 0,.slice none 0 0] 64)) #[] 0 (Nat.le_refl _) (by decide) rfl;rw[World.size_alloc]at aK;have aP:∀ (ops:Array Oper) (rest:List Oper) (o:Oper) (al:Act) (Q:Exit→Act→World→Prop) (aQ:o.guard=none) (sx x:Operand) (ho:o.op=.call {callee:=.builtin .append,args:=#[sx,x],argTypes:=#[54,54]}) (hs:al.eval sx=.slice (some ⟨w.heap.size+1,0,none⟩) 0 0) (hx:al.eval x=.slice a xs.length cap)
   (hh:∀a' c' w',w'.ownsRow (w.heap.size+1) 135 2 (.slice a' xs.length c') xs.length (z0d xs)→Below (w.heap.size+1) ((w.alloc (.cells #[.int .i64 0,.slice none 0 0,.slice none 0 0,.slice none 0 0] 64)).alloc (.cells #[] 135)) w'→wpList Tryz.prog ops Q rest (al.put o.dst (.slice a' xs.length c')) w'),wpList Tryz.prog ops Q (o::rest) al ((w.alloc (.cells #[.int .i64 0,.slice none 0 0,.slice none 0 0,.slice none 0 0] 64)).alloc (.cells #[] 135)):=
  fun ops rest o al Q aQ sx x ho hs hx hh=>z0B _ aQ sx x ho (w.heap.size+1) (w.heap.size+1) hs aK a xs cap hx (h.below aH) hN (by omega) (by simp) hh
 go_enter Tryz.func185,Tryz.ntmps185
 go_wp2_with (at_builtin;refine aP _ _ _ _ _ rfl _ _ rfl rfl rfl ?_)
 intro ah ai W3 ag aI;have aO:Below w.heap.size w W3:=aH.trans (aI.mono (by omega));replace B0:Blk W3 _ _ _:=(aI.block _ (by omega)).trans B0;have be:w.heap.size<W3.heap.size:=B0.lt;have aV:=ht.below aO;clear aP aK aH aI h hN ht;have ay:Below W3.heap.size W3 (W3.alloc (.cells #[.int .i64 0,.slice none 0 0,.slice none 0 0,.slice ah xs.length ai] 64)):=by go_grown
 have aj:=Blk.new W3 64 #[.int .i64 0,.slice none 0 0,.slice none 0 0,.slice ah xs.length ai];have aC:∀k,(Value.slice ah xs.length ai).ownBlock=some k→k≠W3.heap.size:=fun k hk=>by have:=(ag.lt k hk).2;omega
 replace ag:=z0a ag ay;have af:W3.heap.size+1≤(W3.alloc (.cells #[.int .i64 0,.slice none 0 0,.slice none 0 0,.slice ah xs.length ai] 64)).heap.size:=by simp
 have bf:=aV.shape;obtain⟨bt,bg,rfl⟩:=bf
 go_wp2
 generalize W3.alloc (.cells #[.int .i64 0,.slice none 0 0,.slice none 0 0,.slice ah xs.length ai] 64)=W4 at ay aj ag af;have aB:Below W3.heap.size W3 W4:=ay;obtain⟨T,ba⟩:∃T,T=w.heap.size+1:=⟨_,rfl⟩
 rw[←ba]at ag;generalize aA:W3.heap.size=ab at*;go_loopw[6] (fun j wr=>∃ (k:Nat) (c:List ItemD) (C V:List Int) (ca:Option Addr) (cc:Nat) (va:Option Addr) (vc:Nat) (ia:Option Addr) (ic:Nat),k≤ds.length∧j=.int .i64 k∧Blk wr ab 64 #[.int .i64 0,.slice ca C.length cc,.slice va V.length vc,.slice ia c.length ic]∧wr.ownsRow (ab+1) 2 1 (.slice ca C.length cc) C.length (C.map (Value.int .i64))∧wr.ownsRow (ab+1) 2 1 (.slice va V.length vc) V.length (V.map (Value.int .i64))∧wr.ownsRow T 135 2 (.slice ia c.length ic) c.length (z0d c)∧Apart3 (.slice ca C.length cc) (.slice va V.length vc) (.slice ia c.length ic)∧(∀k,(Value.slice ia c.length ic).ownBlock=some k→k≠ab)∧Below ab W3 wr∧ab+1≤wr.heap.size∧Hid (c.length≤8∧Good c∧allI c (ds.drop k)=allI xs ds∧C++z1B c (ds.drop k)=z1B xs ds∧V++z1C c (ds.drop k)=z1C xs ds∧C.length=k∧V.length=k)) (fun j _=>ds.length-(intOf j).toNat)
 case atStart=>exact⟨0,xs,[],[],none,0,none,0,ah,ai,Nat.zero_le _,rfl,aj,World.ownsRow_nil _ _ _ _,World.ownsRow_nil _ _ _ _,ag,⟨Or.inl rfl,Or.inl rfl,Or.inl rfl⟩,aC,aB,af,⟨h8,g,by simp,by simp,by simp,rfl,rfl⟩⟩
 case round=>
  clear aj ag aB af aC ay;obtain⟨k,c,C,V,ca,cc,va,vc,ia,ic,hk,rfl,I,o1,o2,o3,ap,ao,hb,bs,HG⟩:=hrel;have aF:∀g,(Value.slice ca C.length cc).ownBlock=some g→g<wr.heap.size:=fun g hg=>(o1.lt g hg).2
  have aG:∀g,(Value.slice va V.length vc).ownBlock=some g→g<wr.heap.size:=fun g hg=>(o2.lt g hg).2
  have bk:C.length≤60:=by have:=HG.out.2.2.2.2.2.1;omega
  have bl:V.length≤60:=by have:=HG.out.2.2.2.2.2.2;omega
  have bm:=HG.out.1;by_cases aJ:k<ds.length
  ·obtain⟨b,M,aa,tc,rfl,an,t0,t1,t2,t3,hA⟩:=aV.at k aJ;rw[aA]at an;have aE:=HZ.out (ds.getD k z0n) (by simp[List.getD,aJ]);replace t0:wr.cell? ⟨b,M+k*4,none⟩=_:=(hb.cell (p:=⟨b,M+k*4,none⟩) an).trans t0;replace t1:wr.cell? ⟨b,M+k*4+1,none⟩=_:=(hb.cell (p:=⟨b,M+k*4+1,none⟩) an).trans t1;replace t2:wr.cell? ⟨b,M+k*4+2,none⟩=_:=(hb.cell (p:=⟨b,M+k*4+2,none⟩) an).trans t2;replace t3:wr.cell? ⟨b,M+k*4+3,none⟩=_:=(hb.cell (p:=⟨b,M+k*4+3,none⟩) an).trans t3;have aM:ActRow wr aa (ds.getD k z0n).acts:=hA.below (by rw[aA];exact hb);have aN:Box4 wr b (M+k*4) _ _ _ _:=⟨t0,t1,t2,t3⟩
   have aR:ItemRow wr ia c:=Lies.own o3;have O:=fun u (hu:Below wr.heap.size wr u)=>z6C ia ic c b (M+k*4) (ds.getD k z0n).id (ds.getD k z0n).session (ds.getD k z0n).seq aa tc (ds.getD k z0n).acts u (aR.below hu) (z15 o3) (aN.below hu) (aM.below hu) HG.out.1 HG.out.2.1 aE
   have ak:Hid ((nextI c (ds.getD k z0n)).length≤8∧Good (nextI c (ds.getD k z0n))∧allI (nextI c (ds.getD k z0n)) (ds.drop (k+1))=allI xs ds∧(C++[(z0x c (ds.getD k z0n).acts).1])++z1B (nextI c (ds.getD k z0n)) (ds.drop (k+1))=z1B xs ds∧(V++[runV c (ds.getD k z0n).acts])++z1C (nextI c (ds.getD k z0n)) (ds.drop (k+1))=z1C xs ds∧(C++[(z0x c (ds.getD k z0n).acts).1]).length=k+1∧(V++[runV c (ds.getD k z0n).acts]).length=k+1):=by
    obtain⟨g1,g2,g3,g4,g5,g6,g7⟩:=HG.out;rw[z6b aJ]at g3 g4 g5;obtain⟨n1,n2⟩:=z01 g1 g2 aE;exact⟨n1,n2,g3,by simpa[z1B]using g4,by simpa[z1C]using g5,by simp[g6],by simp[g7]⟩
   have ar:Hid ((z0x c (ds.getD k z0n).acts).1=0→runR c (ds.getD k z0n).acts=nextI c (ds.getD k z0n)):=fun h=>by unfold runR nextI;rw[if_pos h,if_pos h]
   have aD:Hid ((z0x c (ds.getD k z0n).acts).1≠0→nextI c (ds.getD k z0n)=c):=fun h=>if_neg h
   generalize (z0x c (ds.getD k z0n).acts).1=D at O ak ar aD;generalize runR c (ds.getD k z0n).acts=RL at O ar;generalize runV c (ds.getD k z0n).acts=J at O ak;generalize nextI c (ds.getD k z0n)=nx at ak ar aD;clear aE hA HG t0 t1 t2 t3;have k3:=I.lat 3 _ rfl
   go_wp2_with fail
   refine z1i [some 18,some 19,some 20,some 21,some 22,some 23,some 7] (fun vs w'=>∃ (ra:Option Addr) (rc db:Nat),vs=[.pointer (some ⟨ab,3,none⟩),.slice ia c.length ic,.slice (some ⟨b,M,none⟩) ds.length bg,.int .i64 k,.pointer (some ⟨b,M+k*4,none⟩),.agg #[.int .i64 D,.int .i64 J,.slice ra RL.length rc],.pointer (some ⟨db,0,none⟩)]∧wr.heap.size≤db∧Blk w' db 129 #[.int .i64 D,.int .i64 J,.slice ra RL.length rc]∧w'.ownsRow wr.heap.size 135 2 (.slice ra RL.length rc) RL.length (z0d RL)∧Below wr.heap.size wr w') ?_ ?_
   ·have hW:Below wr.heap.size wr wr.drew:=(Below.refl _ _).drew;have bq:Nonempty (Lat wr):=⟨⟨wr,Below.refl _ _⟩⟩
    refine z0h (S:=fun w'=>∃u:Lat wr,w'=u.val) (by kernel_rfl) ?_;refine sgr [(0,5)] 3 (by kernel_rfl) ⟨⟨_,hW⟩,rfl⟩ ?_;simp only[pkE];repeat go_big_quiet_step (fail)
    refine wpQuiet_nil ?_;clear k3;generalize wr.drew=yd at hW⊢;refine twa 5 6 2 (by kernel_rfl) ?_ ?_
    ·refine opc 5 (some 23) 208 #[.slice ia c.length ic,.pointer (some ⟨b,M+k*4,none⟩)] (by kernel_rfl) ?_;refine(O _ hW).mono ?_;rintro e w4 ⟨ra,rc,rfl,oR,ax⟩;have aT:=hW.size;replace oR:=z0m oR aT;replace hW:=hW.trans (ax.mono aT);refine⟨_,rfl,⟨⟨_,hW⟩,rfl⟩,?_⟩;simp only[Act.put,pgE,pjE];refine ona 6 1 rfl (by kernel_rfl) ?_;have X:Below w4.heap.size w4 (w4.alloc (.cells #[.int .i64 0,.int .i64 0,.slice none 0 0] 129)):=by go_grown
     have Bz:=Blk.new w4 129 #[.int .i64 0,.int .i64 0,.slice none 0 0];have ae:∀k,(Value.slice ra RL.length rc).ownBlock=some k→k≠w4.heap.size:=fun k hk=>by have:=oR.lt k hk;omega
     have L:wr.heap.size≤w4.heap.size:=hW.size;replace oR:=z0a oR X;replace hW:=hW.trans (X.mono L)
     go_wp2
     refine ThenGo.to ⟨⟨⟨_,hW⟩,rfl⟩,?_⟩;generalize w4.alloc (.cells #[.int .i64 0,.int .i64 0,.slice none 0 0] 129)=Z at X Bz oR hW⊢;clear X;refine ona 7 0 rfl (by kernel_rfl) ?_;have p0:=Bz.cell 0 _ rfl;have f0:=Bz.frozen 0;have p1:=Bz.cell 1 _ rfl;have f1:=Bz.frozen 1;have p2:=Bz.cell 2 _ rfl;have f2:=Bz.frozen 2
     go_wp2
     refine ThenGo.to ⟨⟨⟨_,(((hW.setCell (p:=⟨w4.heap.size,0,none⟩) L (.int .i64 D)).setCell (p:=⟨w4.heap.size,1,none⟩) L (.int .i64 J)).setCell (p:=⟨w4.heap.size,2,none⟩) L (.slice ra RL.length rc))⟩,rfl⟩,?_⟩;refine z0k (by kernel_rfl) ?_;exact⟨rfl,_,⟨ra,rc,w4.heap.size,rfl,L,(((Bz.set 0 (.int .i64 D)).set 1 (.int .i64 J)).set 2 (.slice ra RL.length rc)),(z0g (j:=2) (u:=.slice ra RL.length rc) (z0g (j:=1) (u:=.int .i64 J) (z0g (j:=0) (u:=.int .i64 D) oR ae) ae) ae),(((hW.setCell (p:=⟨w4.heap.size,0,none⟩) L (.int .i64 D)).setCell (p:=⟨w4.heap.size,1,none⟩) L (.int .i64 J)).setCell (p:=⟨w4.heap.size,2,none⟩) L (.slice ra RL.length rc))⟩,by kernel_rfl⟩
    ·refine z1u 6 _ rfl ?_;have X:Below yd.heap.size yd (yd.alloc (.cells #[.int .i64 0,.int .i64 0,.slice none 0 0] 129)):=by go_grown
     have Bz:=Blk.new yd 129 #[.int .i64 0,.int .i64 0,.slice none 0 0];have L:wr.heap.size≤yd.heap.size:=hW.size;replace hW:=hW.trans (X.mono L)
     go_wp2
     refine ThenGo.to ⟨⟨⟨_,hW⟩,rfl⟩,?_⟩;generalize yd.alloc (.cells #[.int .i64 0,.int .i64 0,.slice none 0 0] 129)=Y at X Bz hW⊢;clear X;refine cla 5 (some 23) 208 #[.slice ia c.length ic,.pointer (some ⟨b,M+k*4,none⟩)] 1 (by kernel_rfl) ?_;refine(O _ hW).mono ?_;rintro e Z ⟨ra,rc,rfl,oR,ax⟩;have ae:∀k,(Value.slice ra RL.length rc).ownBlock=some k→k≠yd.heap.size:=fun k hk=>by have:=(oR.lt k hk).1;have:=Bz.lt;omega
     replace oR:=z0m oR hW.size;replace Bz:=Bz.below ax;replace hW:=hW.trans (ax.mono hW.size);refine⟨_,rfl,⟨⟨_,hW⟩,rfl⟩,?_⟩;simp only[Act.put,pgE,pjE];refine ona 7 0 rfl (by kernel_rfl) ?_;have p0:=Bz.cell 0 _ rfl;have f0:=Bz.frozen 0;have p1:=Bz.cell 1 _ rfl;have f1:=Bz.frozen 1;have p2:=Bz.cell 2 _ rfl;have f2:=Bz.frozen 2
     go_wp2
     refine ThenGo.to ⟨⟨⟨_,(((hW.setCell (p:=⟨yd.heap.size,0,none⟩) L (.int .i64 D)).setCell (p:=⟨yd.heap.size,1,none⟩) L (.int .i64 J)).setCell (p:=⟨yd.heap.size,2,none⟩) L (.slice ra RL.length rc))⟩,rfl⟩,?_⟩;refine z0k (by kernel_rfl) ?_;exact⟨rfl,_,⟨ra,rc,yd.heap.size,rfl,L,(((Bz.set 0 (.int .i64 D)).set 1 (.int .i64 J)).set 2 (.slice ra RL.length rc)),(z0g (j:=2) (u:=.slice ra RL.length rc) (z0g (j:=1) (u:=.int .i64 J) (z0g (j:=0) (u:=.int .i64 D) oR ae) ae) ae),(((hW.setCell (p:=⟨yd.heap.size,0,none⟩) L (.int .i64 D)).setCell (p:=⟨yd.heap.size,1,none⟩) L (.int .i64 J)).setCell (p:=⟨yd.heap.size,2,none⟩) L (.slice ra RL.length rc))⟩,by kernel_rfl⟩
   rintro vs w5 ⟨ra,rc,db,rfl,bo,Bd,oR,ad⟩;simp only[z1q,Act.put,pjE];have am:∀g,(Value.slice ra RL.length rc).ownBlock=some g→wr.heap.size≤g∧g<w5.heap.size:=fun g hg=>oR.lt g hg
   replace o1:=z0a o1 ad;replace o2:=z0a o2 ad;replace o3:=z0a o3 ad;replace I:=I.below ad;replace hb:=hb.trans (ad.mono (by omega));have br:=ad.size;clear O aM aR aN ad k3;generalize wr.heap.size=mb at*;have bi:w5.heap.size=w5.heap.size:=by first|rfl|simp
   have a1:=I.cell 1 _ rfl;have b0:=Bd.cell 0 _ rfl;have N:Below w5.heap.size w5 (w5.alloc (.cells #[.int .i64 D] 2)):=by go_grown
   have q1:=z0a o1 N;have l2:=fun g hg=>(o2.lt g hg).2
   have l3:=fun g hg=>(o3.lt g hg).2
   go_wp2_with (at_builtin;refine wpList_append_own_at _ rfl _ _ 47 rfl (ab+1) 2 i0 (.int .i64 0) 1 8 Tryz.underlying47 hi aW aX aY rfl (by decide) _ C.length (C.map (Value.int .i64)) rfl q1 ⟨w5.heap.size,0,none⟩ 1 1 [.int .i64 D] rfl rfl ?c1 ?c2 ?c3 ?c4 ?c5 ?_)
   all_goals try(case c1=>intro j u hj;match j,hj with|0,hj=>simp at hj;subst hj;simp[Addr.add])
   all_goals try(case c2=>first|rfl|(intro u hu;simp at hu;subst hu;rfl))
   all_goals try(case c3=>unfold maxLen;omega)
   all_goals try(case c4=>omega)
   all_goals try(case c5=>first|omega|(simp;omega))
   intro v' w1 W E _ U;obtain⟨z,A,rfl⟩:=z0b W;clear a1 b0;have av:Below (ab+1) w5 w1:=((Below.refl _ _).alloc (by omega) _).grown E (by simp;omega) (fun k hk=>(o1.lt k hk).1);have az:w5.heap.size≤w1.heap.size:=av.size;have a7:∀g,(Value.slice z (C.length+1) A).ownBlock=some g→g<mb∨w5.heap.size≤g:=fun g hg=>by
    rcases U with e|e
    ·exact Or.inl (aF g (by rw[←e];exact hg))
    ·rw[hg]at e;simp at e;right;omega
   have au:Apart3 (.slice z (C.length+1) A) (.slice va V.length vc) (.slice ia c.length ic):=ap.grow1 (w:=w5.alloc (.cells #[.int .i64 D] 2)) (by simpa using U) (fun g hg=>by have:=l2 g hg;simp;omega) (fun g hg=>by have:=l3 g hg;simp;omega);replace o2:=(z0a o2 N).kept E (z2l ap.a12);replace o3:=(z0a o3 N).kept E (z2l ap.a13);replace oR:=(z0a oR N).kept E (z3f (fun g h1 h2=>by have:=am g h1;have:=aF g h2;omega));replace Bd:=(Bd.below N).grown E (by intro e;have:=aF db e.symm;omega);replace I:Blk w1 ab 64 #[.int .i64 0,.slice ca C.length cc,.slice va V.length vc,.slice ia c.length ic]:=(av.block _ (by omega)).trans I;replace o1:w1.ownsRow (ab+1) 2 1 (.slice z (C.length+1) A) (C.length+1) ((C++[D]).map (Value.int .i64)):=by simpa using W
   replace hb:=hb.trans (av.mono (by omega));clear W E U q1 l2 l3 N av ap;have d1:=I.cell 1 _ rfl;have d2:=I.frozen 1;replace o1:=ownsRow_setCell_below (a:=⟨ab,1,none⟩) o1 (by dsimp only;omega) (.slice z (C.length+1) A);replace o2:=ownsRow_setCell_below (a:=⟨ab,1,none⟩) o2 (by dsimp only;omega) (.slice z (C.length+1) A);replace o3:=z0g (j:=1) (u:=.slice z (C.length+1) A) o3 ao;replace oR:=ownsRow_setCell_below (a:=⟨ab,1,none⟩) oR (by dsimp only;omega) (.slice z (C.length+1) A);replace I:Blk (w1.setCell ⟨ab,1,none⟩ (.slice z (C.length+1) A)) ab 64 #[.int .i64 0,.slice z (C.length+1) A,.slice va V.length vc,.slice ia c.length ic]:=by simpa using I.set 1 (.slice z (C.length+1) A)
   replace Bd:Blk (w1.setCell ⟨ab,1,none⟩ (.slice z (C.length+1) A)) (db) 129 #[.int .i64 D,.int .i64 J,.slice ra RL.length rc]:=Bd.otherG (by omega);replace hb:=hb.setCell (p:=⟨ab,1,none⟩) (Nat.le_refl _) (.slice z (C.length+1) A);replace az:w5.heap.size≤(w1.setCell ⟨ab,1,none⟩ (.slice z (C.length+1) A)).heap.size:=by simpa[World.setCell]using az
   have a2:=I.cell 2 _ rfl;have b1:=Bd.cell 1 _ rfl;have N:Below (w1.setCell ⟨ab,1,none⟩ (.slice z (C.length+1) A)).heap.size (w1.setCell ⟨ab,1,none⟩ (.slice z (C.length+1) A)) ((w1.setCell ⟨ab,1,none⟩ (.slice z (C.length+1) A)).alloc (.cells #[.int .i64 J] 2)):=by go_grown
   have q2:=z0a o2 N;have l1:=fun g hg=>(o1.lt g hg).2
   have l3:=fun g hg=>(o3.lt g hg).2
   have aU:(w1.setCell ⟨ab,1,none⟩ (.slice z (C.length+1) A)).heap.size=w1.heap.size:=by simp[World.setCell]
   have aq:∀j u,[Value.int .i64 J][j]?=some u→((w1.setCell ⟨ab,1,none⟩ (.slice z (C.length+1) A)).alloc (.cells #[.int .i64 J] 2)).cell? ((⟨w1.heap.size,0,none⟩:Addr).add j)=some u:=by
    intro j u hj
    match j,hj with
    |0,hj=>
     simp at hj;subst hj;rw[←aU,Addr.add_lit];exact(Blk.new (w1.setCell ⟨ab,1,none⟩ (.slice z (C.length+1) A)) 2 #[.int .i64 J]).cell 0 _ rfl
   go_wp2_with (at_builtin;refine wpList_append_own_at _ rfl _ _ 47 rfl (ab+1) 2 i0 (.int .i64 0) 1 8 Tryz.underlying47 hi aW aX aY rfl (by decide) _ V.length (V.map (Value.int .i64)) rfl q2 ⟨w1.heap.size,0,none⟩ 1 1 [.int .i64 J] rfl rfl aq ?c2 ?c3 ?c4 ?c5 ?_)
   all_goals try(case c1=>intro j u hj;match j,hj with|0,hj=>simp at hj;subst hj;simp[Addr.add])
   all_goals try(case c2=>first|rfl|(intro u hu;simp at hu;subst hu;rfl))
   all_goals try(case c3=>unfold maxLen;omega)
   all_goals try(case c4=>omega)
   all_goals try(case c5=>first|omega|(simp;omega))
   intro v' w2 W E _ U;obtain⟨d,y,rfl⟩:=z0b W;clear a2 b1 d1 d2;have aw:Below (ab+1) (w1.setCell ⟨ab,1,none⟩ (.slice z (C.length+1) A)) w2:=((Below.refl _ _).alloc (by omega) _).grown E (by simp;omega) (fun k hk=>(o2.lt k hk).1);have aS:w5.heap.size≤w2.heap.size:=Nat.le_trans az aw.size;have a8:∀g,(Value.slice d (V.length+1) y).ownBlock=some g→g<mb∨w5.heap.size≤g:=fun g hg=>by
    rcases U with e|e
    ·exact Or.inl (aG g (by rw[←e];exact hg))
    ·rw[hg]at e;simp at e;right;omega
   have aL:Apart3 (.slice z (C.length+1) A) (.slice d (V.length+1) y) (.slice ia c.length ic):=au.grow2 (w:=(w1.setCell ⟨ab,1,none⟩ (.slice z (C.length+1) A)).alloc (.cells #[.int .i64 J] 2)) (by simpa using U) (fun g hg=>by have:=l1 g hg;simp;omega) (fun g hg=>by have:=l3 g hg;simp;omega);replace o1:=(z0a o1 N).kept E au.a12;replace o3:=(z0a o3 N).kept E (z2l au.a23);replace oR:=(z0a oR N).kept E (z3f (fun g h1 h2=>by have:=am g h1;have:=aG g h2;omega));replace Bd:=(Bd.below N).grown E (by intro e;have:=aG db e.symm;omega);replace I:Blk w2 ab 64 #[.int .i64 0,.slice z (C.length+1) A,.slice va V.length vc,.slice ia c.length ic]:=(aw.block _ (by omega)).trans I;replace o2:w2.ownsRow (ab+1) 2 1 (.slice d (V.length+1) y) (V.length+1) ((V++[J]).map (Value.int .i64)):=by simpa using W
   replace hb:=hb.trans (aw.mono (by omega));clear W E U q2 l1 l3 N aw au aU az aq;have d1:=I.cell 2 _ rfl;have d2:=I.frozen 2;replace o1:=ownsRow_setCell_below (a:=⟨ab,2,none⟩) o1 (by dsimp only;omega) (.slice d (V.length+1) y);replace o2:=ownsRow_setCell_below (a:=⟨ab,2,none⟩) o2 (by dsimp only;omega) (.slice d (V.length+1) y);replace o3:=z0g (j:=2) (u:=.slice d (V.length+1) y) o3 ao;replace oR:=ownsRow_setCell_below (a:=⟨ab,2,none⟩) oR (by dsimp only;omega) (.slice d (V.length+1) y);replace I:Blk (w2.setCell ⟨ab,2,none⟩ (.slice d (V.length+1) y)) ab 64 #[.int .i64 0,.slice z (C.length+1) A,.slice d (V.length+1) y,.slice ia c.length ic]:=by simpa using I.set 2 (.slice d (V.length+1) y)
   replace Bd:Blk (w2.setCell ⟨ab,2,none⟩ (.slice d (V.length+1) y)) (db) 129 #[.int .i64 D,.int .i64 J,.slice ra RL.length rc]:=Bd.otherG (by omega);replace hb:=hb.setCell (p:=⟨ab,2,none⟩) (Nat.le_refl _) (.slice d (V.length+1) y);replace aS:w5.heap.size≤(w2.setCell ⟨ab,2,none⟩ (.slice d (V.length+1) y)).heap.size:=by simpa[World.setCell]using aS
   have b0:=Bd.cell 0 _ rfl;have b2:=Bd.cell 2 _ rfl;have a3:=I.cell 3 _ rfl;have a4:=I.frozen 3;by_cases hc:D=0
   ·obtain rfl:RL=nx:=ar.out hc;have a6:Apart3 (.slice z (C.length+1) A) (.slice d (V.length+1) y) (.slice ra RL.length rc):=⟨aL.a12,z3f (fun g h1 h2=>by have:=am g h2;have:=a7 g h1;omega),z3f (fun g h1 h2=>by have:=am g h2;have:=a8 g h1;omega)⟩
    have bh:((w2.setCell ⟨ab,2,none⟩ (.slice d (V.length+1) y)).setCell ⟨ab,3,none⟩ (.slice ra RL.length rc)).heap.size=(w2.setCell ⟨ab,2,none⟩ (.slice d (V.length+1) y)).heap.size:=by simp[World.setCell]
    have R:Hid (Blk ((w2.setCell ⟨ab,2,none⟩ (.slice d (V.length+1) y)).setCell ⟨ab,3,none⟩ (.slice ra RL.length rc)) ab 64 #[.int .i64 0,.slice z (C.length+1) A,.slice d (V.length+1) y,.slice ra RL.length rc]∧((w2.setCell ⟨ab,2,none⟩ (.slice d (V.length+1) y)).setCell ⟨ab,3,none⟩ (.slice ra RL.length rc)).ownsRow (ab+1) 2 1 (.slice z (C.length+1) A) (C.length+1) ((C++[D]).map (Value.int .i64))∧((w2.setCell ⟨ab,2,none⟩ (.slice d (V.length+1) y)).setCell ⟨ab,3,none⟩ (.slice ra RL.length rc)).ownsRow (ab+1) 2 1 (.slice d (V.length+1) y) (V.length+1) ((V++[J]).map (Value.int .i64))∧((w2.setCell ⟨ab,2,none⟩ (.slice d (V.length+1) y)).setCell ⟨ab,3,none⟩ (.slice ra RL.length rc)).ownsRow mb 135 2 (.slice ra RL.length rc) RL.length (z0d RL)∧Below ab W3 ((w2.setCell ⟨ab,2,none⟩ (.slice d (V.length+1) y)).setCell ⟨ab,3,none⟩ (.slice ra RL.length rc))∧ab+1≤((w2.setCell ⟨ab,2,none⟩ (.slice d (V.length+1) y)).setCell ⟨ab,3,none⟩ (.slice ra RL.length rc)).heap.size):=
     ⟨by simpa using I.set 3 (.slice ra RL.length rc),ownsRow_setCell_below o1 (by dsimp only;omega) _,ownsRow_setCell_below o2 (by dsimp only;omega) _,ownsRow_setCell_below oR (by dsimp only;omega) _,hb.setCell (p:=⟨ab,3,none⟩) (Nat.le_refl _) _,by omega⟩
    clear o1 o2 o3 oR I Bd hb;subst hc
    go_wp2
    go_roundw
    case rel=>
     refine⟨k+1,RL,C++[0],V++[J],z,A,d,y,ra,rc,by omega,by go_num,?_,?_,?_,?_,?_,?_,R.out.2.2.2.2.1,R.out.2.2.2.2.2,ak⟩
     ·simpa using R.out.1
     ·simpa using R.out.2.1
     ·simpa using R.out.2.2.1
     ·exact z0m R.out.2.2.2.1 (by omega)
     ·simpa using a6
     ·intro k hk;have:=am k hk;omega
    case measure=>simp[intOf];omega
   ·have bn:(D==0)=false:=by simp[hc]
    have bd:nx=c:=aD.out hc;have R:Hid (Blk (w2.setCell ⟨ab,2,none⟩ (.slice d (V.length+1) y)) ab 64 #[.int .i64 0,.slice z (C.length+1) A,.slice d (V.length+1) y,.slice ia c.length ic]∧(w2.setCell ⟨ab,2,none⟩ (.slice d (V.length+1) y)).ownsRow (ab+1) 2 1 (.slice z (C.length+1) A) (C.length+1) ((C++[D]).map (Value.int .i64))∧(w2.setCell ⟨ab,2,none⟩ (.slice d (V.length+1) y)).ownsRow (ab+1) 2 1 (.slice d (V.length+1) y) (V.length+1) ((V++[J]).map (Value.int .i64))∧(w2.setCell ⟨ab,2,none⟩ (.slice d (V.length+1) y)).ownsRow T 135 2 (.slice ia c.length ic) c.length (z0d c)∧Apart3 (.slice z (C.length+1) A) (.slice d (V.length+1) y) (.slice ia c.length ic)∧Below ab W3 (w2.setCell ⟨ab,2,none⟩ (.slice d (V.length+1) y))∧ab+1≤(w2.setCell ⟨ab,2,none⟩ (.slice d (V.length+1) y)).heap.size):=⟨I,o1,o2,o3,aL,hb,by omega⟩
    clear o1 o2 o3 oR I Bd hb;subst bd
    go_wp2
    go_roundw
    case rel=>
     refine⟨k+1,nx,C++[D],V++[J],z,A,d,y,ia,ic,by omega,by go_num,?_,?_,?_,R.out.2.2.2.1,?_,ao,R.out.2.2.2.2.2.1,R.out.2.2.2.2.2.2,ak⟩
     ·simpa using R.out.1
     ·simpa using R.out.2.1
     ·simpa using R.out.2.2.1
     ·simpa using R.out.2.2.2.2.1
    case measure=>simp[intOf];omega
  ·have bc:k=ds.length:=by omega
   subst bc;have HE:Hid (eaC xs ds=0∧eaCd xs ds=C∧eaVl xs ds=V∧eaI xs ds=c):=by
    obtain⟨_,_,g3,g4,g5,_,_⟩:=HG.out;rw[List.drop_length]at g3 g4 g5;obtain⟨e1,e2,e3,e4⟩:=aZ.out;exact⟨e1,by rw[e2,←g4];simp[z1B],by rw[e3,←g5];simp[z1C],by rw[e4,←g3];rfl⟩
   replace B0:Blk wr _ _ _:=(hb.block _ be).trans B0;obtain⟨p0,p1,p2,p3⟩:=B0.cel4;obtain⟨f0,f1,f2,f3⟩:=B0.frz4;obtain⟨q0,q1,q2,q3⟩:=I.cel4;have bp:=B0.lt;have bb:Below w.heap.size w wr:=aO.trans (hb.mono (by omega));clear B0 I HG
   go_wp2
   refine bodyPost_ret (v:=.agg #[.int .i64 0,.slice ca C.length cc,.slice va V.length vc,.slice ia c.length ic]) (by simp[results,Tryz.results185,go_sem,p0,p1,p2,p3]) rfl ?_;rw[HE.out.1,HE.out.2.1,HE.out.2.2.1,HE.out.2.2.2];refine⟨_,_,_,_,_,_,rfl,⟨OwnS.of ?_,OwnS.of ?_,OwnS.of ?_,ap⟩,?_⟩
   ·refine z0m (base:=ab+1) ?_ (by omega);repeat' (refine ownsRow_setCell_below ?_ (by dsimp only;omega) _)
    exact o1
   ·refine z0m (base:=ab+1) ?_ (by omega);repeat' (refine ownsRow_setCell_below ?_ (by dsimp only;omega) _)
    exact o2
   ·refine z0m (base:=T) ?_ (by omega);repeat' (refine ownsRow_setCell_below ?_ (by dsimp only;omega) _)
    exact o3
   ·repeat' (refine Below.setCell ?_ (by dsimp only;omega) _)
    exact bb
end
theorem z7x:∀ {ds:List TxnD},(∀t∈ds,t.F=0)→z50 ds=0
 |[],_=>rfl
 |d::r,h=>by
  rw[z50,if_pos (h d (by simp))];exact z7x (fun t ht=>h t (List.mem_cons_of_mem _ ht))
theorem z8i{ds:List TxnD}(h:∀t∈ds,t.F=0)(hl:ds.length≤60):idsC ds=0:=by
 unfold idsC;rw[if_neg (by omega)];exact z7x h
theorem z8E(c:Int)(a1 a2 a3:Option Addr)(n1 k1 n2 k2 n3 k3:Nat)(w:World):(Instr.field 64 (.agg #[.int .i64 c,.slice a1 n1 k1,.slice a2 n2 k2,.slice a3 n3 k3]) 3).run Tryz.prog w=.ok (.slice a3 n3 k3) w:=by kernel_rfl
theorem z2S(v1 v2:Value)(ps qs:List TxnQ)(w:World)(h1:txnK.At w v1 ps)(h2:txnK.At w v2 qs)(M:∀p∈ps,(TxnQ.e p).F=0)(C:∀p∈qs,(TxnQ.e p).F=0)(ag:ps.length≤40)(ad:qs.length≤40):
  Calls Tryz.prog 140 #[v1,v2] w fun e w'=>∃p:RepQ,e=.returned (.agg #[p.vd,p.vb,p.vt,p.vu,p.vn])∧p.e=mkR (ps.map TxnQ.e) (qs.map TxnQ.e)∧repK.own w' p∧(repK.foot p).Nodup∧(∀k∈repK.foot p,w.heap.size≤k)∧Below w.heap.size w w':=by
 have D:∀t∈ps.map TxnQ.e,t.F=0:=fun t ht=>by obtain⟨p,hp,rfl⟩:=List.mem_map.1 ht;exact M p hp
 have O:∀t∈qs.map TxnQ.e,t.F=0:=fun t ht=>by obtain⟨p,hp,rfl⟩:=List.mem_map.1 ht;exact C p hp
 have N:∀ (l:List TxnQ),(∀p∈l,(TxnQ.e p).F=0)→∀p∈l,0<p.acts.length:=fun l hl p hp=>by
  have:=(z0P (show txnF p.i p.s p.q p.acts=0 from hl p hp)).1;omega
 have m1:=z7Y D;have m2:=z7Y O;have gD:=z0R (xs:=[]) (by simp) z17 D;have A:=z8i D (by rw[List.length_map];omega);obtain⟨z1,z2,z3,z4⟩:=z7o (xs:=[]) z3R A;obtain⟨a,cap,rfl⟩:=h1.shape;obtain⟨a',J,rfl⟩:=h2.shape;have c:Below w.heap.size w (w.alloc (.cells #[.slice none 0 0,.slice none 0 0,.slice none 0 0,.slice none 0 0,.slice none 0 0] 57)):=by go_grown
 have Bv:=Blk.new w 57 #[.slice none 0 0,.slice none 0 0,.slice none 0 0,.slice none 0 0,.slice none 0 0];have ah:w.heap.size+1≤(w.alloc (.cells #[.slice none 0 0,.slice none 0 0,.slice none 0 0,.slice none 0 0,.slice none 0 0] 57)).heap.size:=by simp only[World.size_alloc];omega
 have T:=fun w h=>z1e (.slice a ps.length cap) ps w h (N ps M) (by omega)
 have U:=fun w h=>z1e (.slice a' qs.length J) qs w h (N qs C) (by omega)
 have I:=fun w h=>z7w none 0 [] (.slice a ps.length cap) (ps.map TxnQ.e) w (Or.inl rfl) (Or.inr ⟨rfl,rfl,rfl⟩) (z0z h) z3R A
 rw[z1,z2,z3,z4]at I;have hR:=fun(w':World) (hb:Below w.heap.size w w')=>And.intro (h1.below hb) (h2.below hb)
 clear z1 z2 z3 z4 A m1 m2 N h1 h2 O;simp only[List.length_nil]at I;go_enter Tryz.func140,Tryz.ntmps140
 go_wp2_with fail
 have V:=hR _ c;generalize w.alloc (.cells #[.slice none 0 0,.slice none 0 0,.slice none 0 0,.slice none 0 0,.slice none 0 0] 57)=W0 at*;generalize hH:w.heap.size=H at*;refine(T W0 V.1).mono ?_;rintro e w1 ⟨v',q1,rfl,e1,o1,n1,g1,hb⟩;obtain⟨a1,k1,rfl⟩:=o1.shape;have i1:=o1.lt;have s1:=hb.size;replace Bv:=Bv.below hb;replace c:=c.trans (hb.mono (by omega));have W:=hR _ c;clear hb T
 go_wp2_with fail
 refine(U w1 W.2).mono ?_;rintro e w2 ⟨v',q3,rfl,e3,o3,n3,g3,hb⟩;obtain⟨a2,k2,rfl⟩:=o3.shape;have i3:=o3.lt;have s2:=hb.size;replace Bv:=Bv.below hb;replace o1:=o1.below hb;replace c:=c.trans (hb.mono (by omega));have X:=hR _ c;clear hb U
 go_wp2_with fail
 refine(I w2 X.1).mono ?_;rintro e w3 ⟨b1,c1,b2,c2,b3,c3,rfl,hA,hb⟩;obtain⟨oB,gB⟩:=z1X hA.o3;have iB:=z0H oB;have s3:=hb.size;replace Bv:=Bv.below hb;replace o1:=o1.below hb;replace o3:=o3.below hb;replace c:=c.trans (hb.mono (by omega));have ae:=hR _ c;clear hb I hA;have ab:=z8E 0 b1 b2 b3 (z1B [] (ps.map TxnQ.e)).length c1 (z1C [] (ps.map TxnQ.e)).length c2 (allI [] (ps.map TxnQ.e)).length c3 w3;have d:itemK.Own w3 (.slice b3 (allI [] (ps.map TxnQ.e)).length c3) (allI [] (ps.map TxnQ.e)):=⟨oB,fun _ _=>trivial⟩
 have z:Below w3.heap.size w3 (w3.alloc (.cells #[.slice a1 q1.length k1,.slice b3 (allI [] (ps.map TxnQ.e)).length c3,.slice a2 q3.length k2,.slice none 0 0,.slice none 0 0] 57)):=by go_grown
 have Bg:=Blk.new w3 57 #[.slice a1 q1.length k1,.slice b3 (allI [] (ps.map TxnQ.e)).length c3,.slice a2 q3.length k2,.slice none 0 0,.slice none 0 0];replace Bv:=Bv.below z;replace o1:=o1.below z;replace o3:=o3.below z;replace d:=d.below z;replace c:=c.trans (z.mono (by omega));have Y:=hR _ c;have s4:=z.size;have af:=Bg.lt;have Z:=z6D b3 c3 (allI [] (ps.map TxnQ.e)) (.slice a' qs.length J) qs _ d.at (d.niceV _ _ _ rfl) Y.2 C ad gD.1 gD.2;have x1:=Bg.cell 1 _ rfl
 go_wp2_with fail
 clear ab x1 z oB;generalize aa:w3.alloc (.cells #[.slice a1 q1.length k1,.slice b3 (allI [] (ps.map TxnQ.e)).length c3,.slice a2 q3.length k2,.slice none 0 0,.slice none 0 0] 57)=w4 at*;clear aa;generalize hg:w3.heap.size=g at*;refine Z.mono ?_;rintro e w5 ⟨ua,uc,na,nc,us,ys,rfl,eU,eY,oU,oY,nU,gU,gY,hb⟩;clear Z;have s5:=hb.size;have iU:=oU.lt;have iY:=z0H oY.1;replace Bv:=Bv.below hb;replace Bg:=Bg.below hb;replace o1:=o1.below hb;replace o3:=o3.below hb;replace d:=d.below hb;replace c:=c.trans (hb.mono (by omega));clear hb V W X ae Y hR;have y3:=Bg.cell 3 _ rfl;have y4:=Bg.cell 4 _ rfl;have f3:=Bg.frozen 3;have f4:=Bg.frozen 4;have B2:Blk ((w5.setCell ⟨g,3,none⟩ (.slice ua us.length uc)).setCell ⟨g,4,none⟩ (.slice na ys.length nc)) g 57 #[.slice a1 q1.length k1,.slice b3 (allI [] (ps.map TxnQ.e)).length c3,.slice a2 q3.length k2,.slice ua us.length uc,.slice na ys.length nc]:=by
  have:=(Bg.set 3 (.slice ua us.length uc)).set 4 (.slice na ys.length nc);simpa using this
 have L:=(Bv.other (b':=g) (by omega) 3 (.slice ua us.length uc)).other (b':=g) (by omega) 4 (.slice na ys.length nc);have E:Out [g] w5 ((w5.setCell ⟨g,3,none⟩ (.slice ua us.length uc)).setCell ⟨g,4,none⟩ (.slice na ys.length nc)):=(Out.setCell w5 g 3 _).trans (Out.setCell _ g 4 _);have RF:Hid (∀u0 u1 u2 u3 u4:Value,repK.own (((((((w5.setCell ⟨g,3,none⟩ (.slice ua us.length uc)).setCell ⟨g,4,none⟩ (.slice na ys.length nc)).setCell ⟨H,0,none⟩ u0).setCell ⟨H,1,none⟩ u1).setCell ⟨H,2,none⟩ u2).setCell ⟨H,3,none⟩ u3).setCell ⟨H,4,none⟩ u4) (⟨.slice a1 q1.length k1,q1,.slice b3 (allI [] (ps.map TxnQ.e)).length c3,allI [] (ps.map TxnQ.e),.slice a2 q3.length k2,q3,.slice ua us.length uc,us,.slice na ys.length nc,ys⟩:RepQ)∧Below H w (((((((w5.setCell ⟨g,3,none⟩ (.slice ua us.length uc)).setCell ⟨g,4,none⟩ (.slice na ys.length nc)).setCell ⟨H,0,none⟩ u0).setCell ⟨H,1,none⟩ u1).setCell ⟨H,2,none⟩ u2).setCell ⟨H,3,none⟩ u3).setCell ⟨H,4,none⟩ u4)):=fun u0 u1 u2 u3 u4=>by
  have hS:Out [H] ((w5.setCell ⟨g,3,none⟩ (.slice ua us.length uc)).setCell ⟨g,4,none⟩ (.slice na ys.length nc)) (((((((w5.setCell ⟨g,3,none⟩ (.slice ua us.length uc)).setCell ⟨g,4,none⟩ (.slice na ys.length nc)).setCell ⟨H,0,none⟩ u0).setCell ⟨H,1,none⟩ u1).setCell ⟨H,2,none⟩ u2).setCell ⟨H,3,none⟩ u3).setCell ⟨H,4,none⟩ u4):=((((Out.setCell _ H 0 u0).trans (Out.setCell _ H 1 u1)).trans (Out.setCell _ H 2 u2)).trans (Out.setCell _ H 3 u3)).trans (Out.setCell _ H 4 u4);have hA:Out [g,H] w5 (((((((w5.setCell ⟨g,3,none⟩ (.slice ua us.length uc)).setCell ⟨g,4,none⟩ (.slice na ys.length nc)).setCell ⟨H,0,none⟩ u0).setCell ⟨H,1,none⟩ u1).setCell ⟨H,2,none⟩ u2).setCell ⟨H,3,none⟩ u3).setCell ⟨H,4,none⟩ u4):=(E.mono (fun x hx=>by simp only[List.mem_singleton]at hx;simp[hx])).trans (hS.mono (fun x hx=>by simp only[List.mem_singleton]at hx;simp[hx]));have nn:∀x,x≠g→x≠H→x∉[g,H]:=fun x h1 h2 hm=>by
   simp only[List.mem_cons,List.not_mem_nil,or_false]at hm;omega
  refine⟨⟨o1.out hA (fun x hx=>nn x (by have:=i1 x hx;omega) (by have:=g1 x hx;omega)),d.out hA (fun x hx=>by rw[z0s]at hx;exact nn x (by have:=iB x hx;omega) (by have:=gB x hx;omega)),o3.out hA (fun x hx=>nn x (by have:=i3 x hx;omega) (by have:=g3 x hx;omega)),oU.out hA (fun x hx=>nn x (by have:=(gU x hx).1;omega) (by have:=(gU x hx).1;omega)),oY.out hA (fun x hx=>by rw[z0s]at hx;exact nn x (by have:=gY x hx;omega) (by have:=gY x hx;omega))⟩,?_⟩;refine Out.keep (Out.keep c E (by omega) (fun x hx=>by simp only[List.mem_singleton]at hx;omega)) hS (by have:=E.size;omega) (fun x hx=>by simp only[List.mem_singleton]at hx;omega)
 have R1:Hid ((repK.foot (⟨.slice a1 q1.length k1,q1,.slice b3 (allI [] (ps.map TxnQ.e)).length c3,allI [] (ps.map TxnQ.e),.slice a2 q3.length k2,q3,.slice ua us.length uc,us,.slice na ys.length nc,ys⟩:RepQ)).Nodup∧∀x∈repK.foot (⟨.slice a1 q1.length k1,q1,.slice b3 (allI [] (ps.map TxnQ.e)).length c3,allI [] (ps.map TxnQ.e),.slice a2 q3.length k2,q3,.slice ua us.length uc,us,.slice na ys.length nc,ys⟩:RepQ),H≤x):=by
  have E1:itemK.fp (.slice b3 (allI [] (ps.map TxnQ.e)).length c3) (allI [] (ps.map TxnQ.e))=blk (.slice b3 (allI [] (ps.map TxnQ.e)).length c3):=z0s _ _;have E2:itemK.fp (.slice na ys.length nc) ys=blk (.slice na ys.length nc):=z0s _ _;show List.Nodup (txnK.fp (.slice a1 q1.length k1) q1++(itemK.fp (.slice b3 (allI [] (ps.map TxnQ.e)).length c3) (allI [] (ps.map TxnQ.e))++(txnK.fp (.slice a2 q3.length k2) q3++(ussK.fp (.slice ua us.length uc) us++itemK.fp (.slice na ys.length nc) ys))))∧∀x∈txnK.fp (.slice a1 q1.length k1) q1++(itemK.fp (.slice b3 (allI [] (ps.map TxnQ.e)).length c3) (allI [] (ps.map TxnQ.e))++(txnK.fp (.slice a2 q3.length k2) q3++(ussK.fp (.slice ua us.length uc) us++itemK.fp (.slice na ys.length nc) ys))),H≤x;rw[E1,E2];have bA:∀x∈txnK.fp (.slice a1 q1.length k1) q1,W0.heap.size≤x∧x<w1.heap.size:=fun x hx=>⟨g1 x hx,i1 x hx⟩
  have bC:∀x∈txnK.fp (.slice a2 q3.length k2) q3,w1.heap.size≤x∧x<w2.heap.size:=fun x hx=>⟨g3 x hx,i3 x hx⟩
  have bB:∀x∈blk (.slice b3 (allI [] (ps.map TxnQ.e)).length c3),w2.heap.size≤x∧x<g:=fun x hx=>⟨gB x hx,by have:=iB x hx;omega⟩
  have bU:∀x∈ussK.fp (.slice ua us.length uc) us,w4.heap.size≤x:=fun x hx=>(gU x hx).1
  refine⟨List.nodup_append.2 ⟨n1,List.nodup_append.2 ⟨z0D _,List.nodup_append.2 ⟨n3,List.nodup_append.2 ⟨nU,z0D _,fun x hx y hy e=>(gU x hx).2 (e▸hy)⟩,?_⟩,?_⟩,?_⟩,?_⟩
  ·intro x hx y hy e;have:=bC x hx;rcases List.mem_append.1 hy with hy|hy
   ·have:=bU y hy;omega
   ·have:=gY y hy;omega
  ·intro x hx y hy e;have:=bB x hx;rcases List.mem_append.1 hy with hy|hy
   ·have:=bC y hy;omega
   rcases List.mem_append.1 hy with hy|hy
   ·have:=bU y hy;omega
   ·have:=gY y hy;omega
  ·intro x hx y hy e;have:=bA x hx;rcases List.mem_append.1 hy with hy|hy
   ·have:=bB y hy;omega
   rcases List.mem_append.1 hy with hy|hy
   ·have:=bC y hy;omega
   rcases List.mem_append.1 hy with hy|hy
   ·have:=bU y hy;omega
   ·have:=gY y hy;omega
  ·intro x hx;rcases List.mem_append.1 hx with hx|hx
   ·have:=bA x hx;omega
   rcases List.mem_append.1 hx with hx|hx
   ·have:=bB x hx;omega
   rcases List.mem_append.1 hx with hx|hx
   ·have:=bC x hx;omega
   rcases List.mem_append.1 hx with hx|hx
   ·have:=bU x hx;omega
   ·have:=gY x hx;omega
 have R2:Hid (RepQ.e (⟨.slice a1 q1.length k1,q1,.slice b3 (allI [] (ps.map TxnQ.e)).length c3,allI [] (ps.map TxnQ.e),.slice a2 q3.length k2,q3,.slice ua us.length uc,us,.slice na ys.length nc,ys⟩:RepQ)=mkR (ps.map TxnQ.e) (qs.map TxnQ.e)):=show _=_ by
  simp only[RepQ.e,mkR,e1,e3,eU,eY]
 clear e1 e3 eU eY oU oY nU gU gY iU iY o1 o3 d n1 n3 g1 g3 i1 i3 gB iB E gD D M C;obtain⟨r0,r1,r2,r3,r4⟩:=B2.cel5;obtain⟨z0,z1,z2,z3,z4⟩:=L.cel5;obtain⟨t0,t1,t2,t3,t4⟩:=L.frz5;clear Bg Bv B2 L c
 go_wp2
 exact bodyPost_ret (v:=.agg #[.slice a1 q1.length k1,.slice b3 (allI [] (ps.map TxnQ.e)).length c3,.slice a2 q3.length k2,.slice ua us.length uc,.slice na ys.length nc]) (by simp[results,Tryz.results140,go_sem,z0,z1,z2,z3,z4]) rfl ⟨(⟨.slice a1 q1.length k1,q1,.slice b3 (allI [] (ps.map TxnQ.e)).length c3,allI [] (ps.map TxnQ.e),.slice a2 q3.length k2,q3,.slice ua us.length uc,us,.slice na ys.length nc,ys⟩:RepQ),rfl,R2.out,(RF.out _ _ _ _ _).1,R1.out.1,(by rw[hH];exact R1.out.2),(by rw[hH];exact(RF.out _ _ _ _ _).2)⟩
theorem z5A(i s q:Int)(b d cap:Nat)(zs:List ActD)(w:World)(h:ActRow w (some ⟨b,d,none⟩) zs)(hl:zs.length≤1048576):
  Calls Tryz.prog 97 #[.agg #[.int .i64 i,.int .i64 s,.int .i64 q,.slice (some ⟨b,d,none⟩) zs.length cap]] w fun e w'=>∃a c,e=.returned (.agg #[.int .i64 i,.int .i64 s,.int .i64 q,.slice a zs.length c])∧
   w'.ownsRow w.heap.size 163 3 (.slice a zs.length c) zs.length (z0i zs)∧Below w.heap.size w w':=by
 obtain⟨i0,hi,D,E,I⟩:=info_parts z1N;have hs:=z4F (Lies.below h (w':=((w.alloc (.cells #[.int .i64 i,.int .i64 s,.int .i64 q,.slice (some ⟨b,d,none⟩) zs.length cap] 44)).alloc (.cells #[.int .i64 0,.int .i64 0,.int .i64 0,.slice none 0 0] 44)).alloc (.cells #[] 163)) (by go_grown));have C:=z0u zs;have ho:=World.ownsRow_lit (e:=163) (size:=3) ((w.alloc (.cells #[.int .i64 i,.int .i64 s,.int .i64 q,.slice (some ⟨b,d,none⟩) zs.length cap] 44)).alloc (.cells #[.int .i64 0,.int .i64 0,.int .i64 0,.slice none 0 0] 44)) #[] 0 (Nat.le_refl _) (by decide) rfl;have z:Below w.heap.size w (((w.alloc (.cells #[.int .i64 i,.int .i64 s,.int .i64 q,.slice (some ⟨b,d,none⟩) zs.length cap] 44)).alloc (.cells #[.int .i64 0,.int .i64 0,.int .i64 0,.slice none 0 0] 44)).alloc (.cells #[] 163)):=by go_grown
 have B1:=(Blk.new w 44 #[.int .i64 i,.int .i64 s,.int .i64 q,.slice (some ⟨b,d,none⟩) zs.length cap]).below (w':=((w.alloc (.cells #[.int .i64 i,.int .i64 s,.int .i64 q,.slice (some ⟨b,d,none⟩) zs.length cap] 44)).alloc (.cells #[.int .i64 0,.int .i64 0,.int .i64 0,.slice none 0 0] 44)).alloc (.cells #[] 163)) (by go_grown);have B2:=(Blk.new (w.alloc (.cells #[.int .i64 i,.int .i64 s,.int .i64 q,.slice (some ⟨b,d,none⟩) zs.length cap] 44)) 44 #[.int .i64 0,.int .i64 0,.int .i64 0,.slice none 0 0]).below (w':=((w.alloc (.cells #[.int .i64 i,.int .i64 s,.int .i64 q,.slice (some ⟨b,d,none⟩) zs.length cap] 44)).alloc (.cells #[.int .i64 0,.int .i64 0,.int .i64 0,.slice none 0 0] 44)).alloc (.cells #[] 163)) (by go_grown);have HS:Hid (∀j u,(z0i zs)[j]?=some u→_):=hs;clear hs;simp only[World.size_alloc]at B2 ho;go_enter Tryz.func97,Tryz.ntmps97
 go_wp2_with (at_builtin;refine wpList_append_own _ rfl _ _ 42 rfl (w.heap.size+1+1) 163 i0 (.agg #[.int .i64 0,.int .i64 0,.int .i64 0]) 3 24 Tryz.underlying42 hi D E I rfl (by decide) _ 0 [] rfl ho ⟨b,d,none⟩ zs.length cap (z0i zs) rfl C HS.out ?c2 ?c3 ?c4 ?c5 ?_)
 all_goals try(case c2=>exact z1Q zs)
 all_goals try(case c3=>unfold maxLen;omega)
 all_goals try(case c4=>omega)
 all_goals try(case c5=>simp)
 intro v' w2 y x _;obtain⟨a2,c2,rfl⟩:=z0b y;replace B1:=B1.grown x (by simp[Value.ownBlock]<;>omega);replace B2:=B2.grown x (by simp[Value.ownBlock]<;>omega);have A:Below w.heap.size w w2:=z.grown x (by simp;omega) (fun k hk=>by simp[Value.ownBlock]at hk;omega);have J:=B2.lt;obtain⟨p0,p1,p2,p3⟩:=B1.cel4;have pf:=B1.frozen 3;obtain⟨q0,q1,q2,q3⟩:=B2.cel4;obtain⟨f0,f1,f2,f3⟩:=B2.frz4;try simp only[Nat.zero_add]at y
 clear B1 B2 x HS ho z
 go_wp2
 refine bodyPost_ret (v:=.agg #[.int .i64 i,.int .i64 s,.int .i64 q,.slice a2 zs.length c2]) (by simp[results,Tryz.results97,go_sem,q0,q1,q2,q3]) rfl ⟨_,_,rfl,?_,?_⟩
 ·refine z0m (base:=w.heap.size+1+1) ?_ (by omega);repeat' (refine ownsRow_setCell_below ?_ (by dsimp only;omega) _)
  simpa using y
 ·repeat' (refine Below.setCell ?_ (by dsimp only;omega) _)
  exact A
theorem z5B(i s q:Int)(w:World):
  Calls Tryz.prog 97 #[.agg #[.int .i64 i,.int .i64 s,.int .i64 q,.slice none 0 0]] w fun e w'=>∃a c,e=.returned (.agg #[.int .i64 i,.int .i64 s,.int .i64 q,.slice a 0 c])∧
   w'.ownsRow w.heap.size 163 3 (.slice a 0 c) 0 (z0i [])∧Below w.heap.size w w':=by
 obtain⟨i0,hi,hz0,hz1,hz2⟩:=info_parts z1N;have ho:=World.ownsRow_lit (e:=163) (size:=3) ((w.alloc (.cells #[.int .i64 i,.int .i64 s,.int .i64 q,.slice none 0 0] 44)).alloc (.cells #[.int .i64 0,.int .i64 0,.int .i64 0,.slice none 0 0] 44)) #[] 0 (Nat.le_refl _) (by decide) rfl;have hb1:Below w.heap.size w (((w.alloc (.cells #[.int .i64 i,.int .i64 s,.int .i64 q,.slice none 0 0] 44)).alloc (.cells #[.int .i64 0,.int .i64 0,.int .i64 0,.slice none 0 0] 44)).alloc (.cells #[] 163)):=by go_grown
 have B1:=(Blk.new w 44 #[.int .i64 i,.int .i64 s,.int .i64 q,.slice none 0 0]).below (w':=((w.alloc (.cells #[.int .i64 i,.int .i64 s,.int .i64 q,.slice none 0 0] 44)).alloc (.cells #[.int .i64 0,.int .i64 0,.int .i64 0,.slice none 0 0] 44)).alloc (.cells #[] 163)) (by go_grown);have B2:=(Blk.new (w.alloc (.cells #[.int .i64 i,.int .i64 s,.int .i64 q,.slice none 0 0] 44)) 44 #[.int .i64 0,.int .i64 0,.int .i64 0,.slice none 0 0]).below (w':=((w.alloc (.cells #[.int .i64 i,.int .i64 s,.int .i64 q,.slice none 0 0] 44)).alloc (.cells #[.int .i64 0,.int .i64 0,.int .i64 0,.slice none 0 0] 44)).alloc (.cells #[] 163)) (by go_grown);simp only[World.size_alloc]at B2 ho;go_enter Tryz.func97,Tryz.ntmps97
 go_wp2_with (at_builtin;refine wpList_append_own_none rfl _ _ 42 rfl (w.heap.size+1+1) 163 i0 3 Tryz.underlying42 hi _ 0 [] rfl ho rfl ?_)
 have hlt2:=B2.lt;obtain⟨p0,p1,p2,p3⟩:=B1.cel4;have pf:=B1.frozen 3;obtain⟨q0,q1,q2,q3⟩:=B2.cel4;obtain⟨f0,f1,f2,f3⟩:=B2.frz4;clear B1 B2
 go_wp2
 refine bodyPost_ret (v:=.agg #[.int .i64 i,.int .i64 s,.int .i64 q,.slice (some ⟨w.heap.size+1+1,0,none⟩) 0 0]) (by simp[results,Tryz.results97,go_sem]) rfl ⟨_,_,rfl,?_,?_⟩
 ·have h9:=World.ownsRow_lit (e:=163) (size:=3) ((w.alloc (.cells #[.int .i64 i,.int .i64 s,.int .i64 q,.slice (some ⟨w.heap.size+1+1,0,none⟩) 0 0] 44)).alloc (.cells #[.int .i64 i,.int .i64 s,.int .i64 q,.slice (some ⟨w.heap.size+1+1,0,none⟩) 0 0] 44)) #[] 0 (Nat.le_refl _) (by decide) rfl;simp only[World.size_alloc]at h9;exact z0m h9 (by omega)
 ·go_grown
def z2h(p:TxnQ):Prop:=(p.va=.slice none 0 0∧p.acts=[])∨∃b off c,p.va=.slice (some ⟨b,off,none⟩) p.acts.length c
theorem z5C(p:TxnQ)(w:World)(h:txnK.rd w p)(hN:z2h p)(hl:p.acts.length≤1048576):
  Calls Tryz.prog 97 #[.agg #[.int .i64 p.i,.int .i64 p.s,.int .i64 p.q,p.va]] w fun e w'=>∃a c,e=.returned (.agg #[.int .i64 p.i,.int .i64 p.s,.int .i64 p.q,.slice a p.acts.length c])∧
   w'.ownsRow w.heap.size 163 3 (.slice a p.acts.length c) p.acts.length (z0i p.acts)∧Below w.heap.size w w':=by
 obtain⟨i,s,q,va,acts⟩:=p;dsimp only;rcases hN with⟨e1,e2⟩|⟨b,off,c,e1⟩
 ·dsimp only at e1 e2;subst e1 e2;exact z5B i s q w
 ·dsimp only at e1;subst e1;have hT:actK.At w (.slice (some ⟨b,off,none⟩) acts.length c) acts:=h;exact z5A i s q b off c acts w (z0K hT).2 hl
theorem z0X(v:Value)(ps:List TxnQ)(w:World)(h:txnK.At w v ps)(aq:∀p∈ps,z2h p)(hl:ps.length+nmL TxnQ.n ps≤1048576):
  Calls Tryz.prog 45 #[v] w fun e w'=>∃v' qs,e=.returned v'∧qs.map TxnQ.e=ps.map TxnQ.e∧txnK.Own w' v' qs∧(txnK.fp v' qs).Nodup∧(∀k∈txnK.fp v' qs,w.heap.size≤k)∧Below w.heap.size w w':=by
 obtain⟨a,cap,rfl⟩:=h.shape;obtain⟨i0,hi,aw,ax,ay⟩:=info_parts z0O;have ho:=World.ownsRow_lit (e:=44) (size:=4) w #[] 0 (Nat.le_refl _) (by decide) rfl;have af:txnK.Own (w.alloc (.cells #[] 44)) (.slice (some ⟨w.heap.size,0,none⟩) 0 0) ([]:List TxnQ):=⟨(z0y ho).1,fun p hp=>by simp at hp⟩
 have ah:Below w.heap.size w (w.alloc (.cells #[] 44)):=by go_grown
 have X:Hid ((txnK.fp (.slice (some ⟨w.heap.size,0,none⟩) 0 0) ([]:List TxnQ)).Nodup∧∀k∈txnK.fp (.slice (some ⟨w.heap.size,0,none⟩) 0 0) ([]:List TxnQ),w.heap.size≤k):=by
  refine⟨?_,?_⟩
  ·simp[Kind.fp,blk,Value.ownBlock]
  ·simp[Kind.fp,blk,Value.ownBlock]
 clear ho;go_enter Tryz.func45,Tryz.ntmps45
 go_wp2
 go_loopw[3,4] (fun v j wr=>∃ (k:Nat) (qs:List TxnQ),k≤ps.length∧j=.int .i64 k∧Hid (qs.map TxnQ.e=(ps.take k).map TxnQ.e)∧txnK.Own wr v qs∧Hid ((txnK.fp v qs).Nodup∧∀k∈txnK.fp v qs,w.heap.size≤k)∧Below w.heap.size w wr) (fun _ j _=>ps.length-(intOf j).toNat)
 case atStart=>exact⟨0,[],Nat.zero_le _,rfl,(rfl:_=_),af,X,ah⟩
 case round=>
  clear X af ah;obtain⟨k,qs,hk,rfl,HE,hO,HN,hb⟩:=hrel;obtain⟨sa,sc,rfl⟩:=hO.shape;have Z:Hid (qs.length=k):=by
   have:=congrArg List.length HE.out;rw[List.length_map,List.length_map,List.length_take]at this;show qs.length=k;omega
  by_cases J:k<ps.length
  ·obtain⟨b,az,rfl,aB,hc,C⟩:=(h.below hb).cell (by decide) k J;have z:∀j x,(txnK.cells ps[k])[j]?=some x→wr.cell? ⟨b,az+k*4+j,none⟩=some x:=hc;have c0:=z 0 (.int .i64 ps[k].i) rfl;have c1:=z 1 (.int .i64 ps[k].s) rfl;have c2:=z 2 (.int .i64 ps[k].q) rfl;have c3:=z 3 (ps[k].va) rfl;have V:=z2t TxnQ.n ps k J;have N:=aq _ (List.getElem_mem J);have Y:Hid (∀p':TxnQ,p'.e=TxnQ.e ps[k]→(qs++[p']).map TxnQ.e=(ps.take (k+1)).map TxnQ.e):=fun p' ar=>by
    rw[List.take_succ_eq_append_getElem J,List.map_append,List.map_append,HE.out,List.map_singleton,List.map_singleton,ar]
   clear hc z;generalize ps[k]=p at*;obtain⟨i,s,q,va,c⟩:=p;replace C:actK.At wr va c:=C;replace V:c.length≤nmL TxnQ.n ps:=V;obtain⟨aa,ac,rfl⟩:=C.shape;dsimp only at c0 c1 c2 c3;have U:=z5C (⟨i,s,q,.slice aa c.length ac,c⟩:TxnQ) wr C N (by dsimp only;omega);dsimp only at U;rw[Nat.add_zero]at c0;clear HE
   go_wp2_with fail
   clear c0 c1 c2 c3;have aA:w.heap.size≤wr.heap.size:=hb.size;refine U.mono ?_;rintro e w2 ⟨a2,c2,rfl,aj,E⟩;have W:=hO.lt;replace hO:=hO.below E;replace hb:=hb.trans (E.mono hb.size);obtain⟨o2,ae⟩:=z0y aj;have hP:txnK.own w2 ⟨i,s,q,.slice a2 c.length c2,c⟩:=⟨o2,fun _ _=>trivial⟩
   have d:∀x∈txnK.foot ⟨i,s,q,.slice a2 c.length c2,c⟩,wr.heap.size≤x:=fun x hx=>ae x (by rw[←z0Y (.slice a2 c.length c2) c];exact hx)
   have ad:(txnK.foot ⟨i,s,q,.slice a2 c.length c2,c⟩).Nodup:=by
    show(actK.fp _ _).Nodup;rw[z0Y];exact z0D _
   have y:Below w2.heap.size w2 (w2.alloc (.cells #[.int .i64 i,.int .i64 s,.int .i64 q,.slice a2 c.length c2] 44)):=by go_grown
   have O:=hO.below y;have ab:=txnK.own_out (F:=[]) hP (Out.of_below y) (fun _ _=>by simp);have I:=hb.trans (y.mono hb.size);clear U aj hO hP ae;have D:=O.1
   go_wp2_with (at_builtin;refine wpList_append_own_at _ rfl _ _ 27 rfl 0 44 i0 (.agg #[.int .i64 0,.int .i64 0,.int .i64 0,.slice none 0 0]) 4 48 Tryz.underlying27 hi aw ax ay rfl (by decide) _ qs.length (txnK.row qs) rfl D ⟨w2.heap.size,0,none⟩ 1 1 [.int .i64 i,.int .i64 s,.int .i64 q,.slice a2 c.length c2] rfl rfl ?c1 ?c2 ?c3 ?c4 ?c5 ?_)
   all_goals try(case c1=>intro j u hj;match j,hj with|0,hj=>simp at hj;subst hj;simp[Addr.add]|1,hj=>simp at hj;subst hj;simp[Addr.add]|2,hj=>simp at hj;subst hj;simp[Addr.add]|3,hj=>simp at hj;subst hj;simp[Addr.add])
   all_goals try(case c2=>intro u hu;simp at hu;rcases hu with rfl|rfl|rfl|rfl<;>rfl)
   all_goals try(case c3=>have:=Z.out;unfold maxLen;omega)
   all_goals try(case c4=>have:=Z.out;omega)
   all_goals try(case c5=>first|omega|simp)
   intro v' w5 M A ai T;clear ai D;rw[show w2.heap.size+1=(w2.alloc (.cells #[.int .i64 i,.int .i64 s,.int .i64 q,.slice a2 c.length c2] 44)).heap.size from(World.size_alloc _ _).symm]at T;generalize au:w2.alloc (.cells #[.int .i64 i,.int .i64 s,.int .i64 q,.slice a2 c.length c2] 44)=WA at*;clear au;have aC:wr.heap.size≤WA.heap.size:=by have:=E.size;have:=y.size;omega
   obtain⟨an,ag,L,ak⟩:=O.snoc HN.out.1 HN.out.2 ab ad (fun x hx av=>by have:=W x av;have:=d x hx;omega) (fun x hx=>by have:=d x hx;omega) I.size M A T;have ao:Below w.heap.size w w5:=Out.keep I ak I.size (fun x hx=>HN.out.2 x (by simp only[Kind.fp,List.mem_append];exact Or.inl hx));have al:Hid ((qs++[(⟨i,s,q,.slice a2 c.length c2,c⟩:TxnQ)]).map TxnQ.e=(ps.take (k+1)).map TxnQ.e):=Y.out _ rfl;have am:Hid ((txnK.fp v' (qs++[(⟨i,s,q,.slice a2 c.length c2,c⟩:TxnQ)])).Nodup∧∀k∈txnK.fp v' (qs++[(⟨i,s,q,.slice a2 c.length c2,c⟩:TxnQ)]),w.heap.size≤k):=⟨ag,L⟩
   clear Y HN W d ad ab O I M A T ak ag L C hb y E V N
   go_wp2
   go_roundw
   case rel=>exact⟨k+1,_,by omega,by go_num,al,an,am,ao⟩
   case measure=>simp[intOf];omega
  ·have ap:k=ps.length:=by omega
   subst ap;have hE:=HE.out;rw[List.take_length]at hE;clear HE
   go_wp2
   go_ret;exact⟨_,qs,rfl,hE,hO,HN.out.1,HN.out.2,hb⟩
theorem z2D{w:World}{p:TxnQ}(h:txnK.own w p):z2h p:=by
 have h:actK.Own w p.va p.acts:=h;rcases h.1.2 with⟨h1,h0⟩|⟨g,cap,cur,h1,_⟩
 ·exact Or.inl ⟨h1,List.eq_nil_of_length_eq_zero h0⟩
 ·exact Or.inr ⟨g,0,cap,h1⟩
theorem z70{w:World}{base e size n:Nat}{v:Value}{xs:List Value}(h:w.ownsRow base e size v n xs):z2k v:=by
 rcases h.2 with⟨rfl,_⟩|⟨g,cap,cur,rfl,_,_,h1,h2,_⟩
 ·exact⟨Nat.zero_le _,Nat.zero_le _⟩
 ·exact⟨h1,h2⟩
theorem z7y{ps qs:List TxnQ}(h:ps.map TxnQ.e=qs.map TxnQ.e):ps.length+nmL TxnQ.n ps=qs.length+nmL TxnQ.n qs:=by
 have e:∀l:List TxnQ,nmL TxnQ.n l=nmL TxnD.n (l.map TxnQ.e):=fun l=>by simp only[nmL,List.map_map];rfl
 have hl:ps.length=qs.length:=by simpa using congrArg List.length h
 rw[e,e,h,hl]
theorem z5W(b:Nat)(p:RepQ)(w:World)(hB:Blk w b 57 #[p.vd,p.vb,p.vt,p.vu,p.vn])(h:repK.own w p)(hl:p.n≤1048576):
  Calls Tryz.prog 78 #[.pointer (some ⟨b,0,none⟩)] w fun e w'=>e=.returned (.int .i64 (repF p.e))∧Below w.heap.size w w':=by
 obtain⟨aI,pd,aH,pb,aK,pt,aL,pu,aJ,pn⟩:=p;obtain⟨p0,p5,rfl⟩:∃a c,aI=.slice a pd.length c:=h.1.shape;obtain⟨p1,p6,rfl⟩:∃a c,aH=.slice a pb.length c:=h.2.1.shape;obtain⟨p2,p7,rfl⟩:∃a c,aK=.slice a pt.length c:=h.2.2.1.shape;obtain⟨p3,p8,rfl⟩:∃a c,aL=.slice a pu.length c:=h.2.2.2.1.shape;obtain⟨p4,p9,rfl⟩:∃a c,aJ=.slice a pn.length c:=h.2.2.2.2.shape;dsimp only[RepQ.n]at hl;have h0:=repK.own_rd h;have T:∀q∈pd,z2h q:=fun q hq=>z2D (h.1.2 q hq)
 have U:∀q∈pt,z2h q:=fun q hq=>z2D (h.2.2.1.2 q hq)
 have nd:=h.1.niceV;have nt:=h.2.2.1.niceV;have hr:=fun(w':World) hb=>repK.rd_below (w':=w') h0 hb
 have aR:(pd.length:Int)≤1048576:=by omega
 have aS:(pt.length:Int)≤1048576:=by omega
 have q0:=hB.cell 0 _ rfl;have q2:=hB.cell 2 _ rfl;clear h h0;by_cases hm:16<pd.length∨8<pt.length
 ·have HC:Hid (repF (RepQ.e (⟨.slice p0 pd.length p5,pd,.slice p1 pb.length p6,pb,.slice p2 pt.length p7,pt,.slice p3 pu.length p8,pu,.slice p4 pn.length p9,pn⟩:RepQ))=2):=show _=_ from z4V (by simpa[RepQ.e]using hm)
  generalize repF (RepQ.e (⟨.slice p0 pd.length p5,pd,.slice p1 pb.length p6,pb,.slice p2 pt.length p7,pt,.slice p3 pu.length p8,pu,.slice p4 pn.length p9,pn⟩:RepQ))=c at*;clear hr T U nd nt;by_cases aN:16<pd.length
  ·have av:(16:Int)<(pd.length:Int):=by omega
   go_enter Tryz.func78,Tryz.ntmps78
   go_wp2
   go_ret;exact⟨by first|(rw[HC.out];done)|(rw[HC.out];rfl)|(simp[HC.out]),Below.refl _ _⟩
  ·have av:¬(16:Int)<(pd.length:Int):=by omega
   have i8:(8:Int)<(pt.length:Int):=by omega
   go_enter Tryz.func78,Tryz.ntmps78
   go_wp2
   go_ret;exact⟨by first|(rw[HC.out];done)|(rw[HC.out];rfl)|(simp[HC.out]),Below.refl _ _⟩
 have av:¬(16:Int)<(pd.length:Int):=by omega
 have i8:¬(8:Int)<(pt.length:Int):=by omega
 have aM:pd.length≤16:=by omega
 have aQ:pt.length≤8:=by omega
 have aa:¬(16<(pd.map TxnQ.e).length∨8<(pt.map TxnQ.e).length):=by simpa using hm
 have z:=Wrp.mk (z4W (r:=RepQ.e (⟨.slice p0 pd.length p5,pd,.slice p1 pb.length p6,pb,.slice p2 pt.length p7,pt,.slice p3 pu.length p8,pu,.slice p4 pn.length p9,pn⟩:RepQ)) aa);have A:=Wrp.mk (z3r (r:=RepQ.e (⟨.slice p0 pd.length p5,pd,.slice p1 pb.length p6,pb,.slice p2 pt.length p7,pt,.slice p3 pu.length p8,pu,.slice p4 pn.length p9,pn⟩:RepQ)) aa);dsimp only[RepQ.e]at z A⊢;clear hm aa;generalize repF _=CC at*;have an:=fun(w':World) (hb:Below w.heap.size w w')=>z0X (.slice p0 pd.length p5) pd w' (hr w' hb).1 T (by omega)
 have ao:=fun(w':World) (hb:Below w.heap.size w w')=>z0X (.slice p2 pt.length p7) pt w' (hr w' hb).2.2.1 U (by omega)
 go_enter Tryz.func78,Tryz.ntmps78
 go_wp2_with fail
 clear q0 q2;have f0:=hB.lat 0 _ rfl;have f2:=hB.lat 2 _ rfl;have hW:Below w.heap.size w w.drew:=(Below.refl _ _).drew;have au:Nonempty (Lat w):=⟨⟨w,Below.refl _ _⟩⟩
 refine z0h (S:=fun w'=>∃u:Lat w,w'=u.val) (by kernel_rfl) ?_;refine sgr [(0,4),(5,4)] 5 (by kernel_rfl) ⟨⟨_,hW⟩,rfl⟩ ?_;simp only[pkE];repeat go_big_quiet_step (fail)
 refine wpQuiet_nil ?_;refine cla 4 (some 23) 45 #[.slice p0 pd.length p5] 4 (by kernel_rfl) ?_;refine(an _ hW).mono ?_;rintro e x1 ⟨v1,q1,rfl,e1,o1,n1,g1,d⟩;have ND:Hid (∀k,∀q∈q1,k∈txnK.foot q→k∉blk v1):=fun k q hq hk hb=>(List.nodup_append.1 n1).2.2 k hb k (List.mem_flatMap.2 ⟨q,hq,hk⟩) rfl
 clear n1;obtain⟨a1,k1,rfl⟩:=o1.shape;have aT:=hW.size;replace hW:=hW.trans (d.mono hW.size);clear d;refine⟨_,rfl,⟨⟨_,hW⟩,rfl⟩,?_⟩;simp only[Act.put,pjE];refine cla 9 (some 28) 45 #[.slice p2 pt.length p7] 3 (by kernel_rfl) ?_;refine(ao _ hW).mono ?_;rintro e x2 ⟨v2,q2,rfl,e2,o2,_,g2,d⟩;obtain⟨a2,k2,rfl⟩:=o2.shape;have aU:=hW.size;have i1:=o1.lt;replace o1:=o1.below d;replace hW:=hW.trans (d.mono hW.size);clear d;refine⟨_,rfl,⟨⟨_,hW⟩,rfl⟩,?_⟩;simp only[Act.put,pjE];have aV:=hW.size;obtain⟨i0,hi,ay,az,aA⟩:=info_parts z0O;have l1:q1.length=pd.length:=by simpa using congrArg List.length e1
 have l2:q2.length=pt.length:=by simpa using congrArg List.length e2
 obtain⟨_,_,ee,I,aw⟩:=o2.at;simp only[Value.slice.injEq,true_and]at ee;obtain⟨rfl,rfl⟩:=ee;have w1:q1.length+q2.length≤maxLen:=by unfold maxLen;omega
 have w2:(q1.length+q2.length)*48≤140737488355328:=by omega
 clear l1 l2;refine ona 10 2 rfl (by kernel_rfl) ?_;refine z0Q (K:=txnK) _ rfl _ _ 27 rfl i0 (.agg #[.int .i64 0,.int .i64 0,.int .i64 0,.slice none 0 0]) 48 Tryz.underlying27 hi ay az aA rfl (by decide) 0 _ q1 rfl o1.1 _ q2 _ rfl I (z3q aw) (o2.niceV _ _ _ rfl) w1 w2 (by omega) ?_;intro v3 x3 ad ap;have L:Out (blk (.slice a1 q1.length k1)) x2 x3:=Out.of_grown ap;have V:∀x∈blk (.slice a1 q1.length k1),w.heap.size≤x∧x<x1.heap.size:=fun x hx=>⟨by have:=g1 x (by simp only[Kind.fp,List.mem_append];exact Or.inl hx);omega,i1 x (by simp only[Kind.fp,List.mem_append];exact Or.inl hx)⟩
 have W:txnK.At x3 v3 (q1 ++ q2):=Kind.at_of_row ad (fun q hq=>by
  rcases List.mem_append.1 hq with hq|hq
  ·exact txnK.own_rd (txnK.own_out (o1.2 q hq) L (fun k hk e=>ND.out k q hq hk e))
  ·exact txnK.own_rd (txnK.own_out (o2.2 q hq) L (fun k hk e=>by
    have:=g2 k (by simp only[Kind.fp,List.mem_append,List.mem_flatMap];exact Or.inr ⟨q,hq,hk⟩);have:=(V k e).2;omega)))
 replace hW:=Out.keep hW L (by omega) (fun x hx=>(V x hx).1);have ax:=z70 ad;obtain⟨a3,k3,rfl⟩:=W.shape
 go_wp2
 refine ThenGo.to ⟨⟨⟨_,hW⟩,rfl⟩,?_⟩;have ar:(q1++q2).length+nmL TxnQ.n (q1++q2)≤1048576:=by
  have e:nmL TxnQ.n (q1++q2)=nmL TxnQ.n q1+nmL TxnQ.n q2:=by simp[nmL]
  have s1:=z7y e1;have s2:=z7y e2;rw[List.length_append,e];omega
 have Z:=fun w h=>z3z (.slice a3 (q1++q2).length k3) (q1++q2) w h ax ar
 rw[List.map_append,e1,e2]at Z;simp only[Act.put,pgE,pjE];refine cla 11 (some 30) 80 #[.slice a3 (q1++q2).length k3] 1 (by kernel_rfl) ?_;refine(Z _ W).mono ?_;rintro e x4 ⟨rfl,d⟩;replace hW:=hW.trans (d.mono hW.size);clear d Z W ad ap L o1 o2 g1 g2 i1 V I aw ND;refine⟨_,rfl,⟨⟨_,hW⟩,rfl⟩,?_⟩;simp only[Act.put,pjE];refine sgr [(12,1)] 0 (by kernel_rfl) ⟨⟨_,hW⟩,rfl⟩ ?_;simp only[pkE];repeat go_big_quiet_step (fail)
 refine wpQuiet_nil ?_;refine z0k (by kernel_rfl) ?_;clear f0 f2 au an ao T U nd nt e1 e2 w1 w2;by_cases hL:lstF (pd.map TxnQ.e++pt.map TxnQ.e)=0
 case neg=>
  have HC:Hid (CC=lstF (pd.map TxnQ.e++pt.map TxnQ.e)):=z.out hL;clear z A;generalize lstF (pd.map TxnQ.e++pt.map TxnQ.e)=c at*;have aO:(c !=0)=true:=by simpa using hL
  go_wp2
  go_ret;exact⟨by first|(rw[HC.out];done)|(rw[HC.out];rfl)|(simp[HC.out]),hW⟩
 have D:=z8D hL;have ag:∀q∈pd,(TxnQ.e q).F=0:=fun q hq=>D _ (List.mem_append_left _ (List.mem_map_of_mem hq))
 have ai:∀q∈pt,(TxnQ.e q).F=0:=fun q hq=>D _ (List.mem_append_right _ (List.mem_map_of_mem hq))
 have HC:=Wrp.mk (A.out hL);rw[hL];clear z A hL;have J:=hB.below hW;have N:=hr _ hW;have ab:=fun(w':World) (hb:Below x4.heap.size x4 w')=>z2S (.slice p0 pd.length p5) (.slice p2 pt.length p7) pd pt w' (N.1.below hb) (N.2.2.1.below hb) ag ai (by omega) (by omega)
 have Y:=hW;clear hW
 go_wp2_with fail
 generalize hX:x4=X at*;clear hX;try clear ar
 generalize (q1++q2).length=QL;have f0:=J.lat 0 _ rfl;have f2:=J.lat 2 _ rfl;refine z1i [some 34,some 35,some 36,some 37,some 38,some 39,some 40,some 41,some 42,some 4] (fun vs w'=>∃ (m:RepQ) (g:Nat),vs=[.pointer (some ⟨b,0,none⟩),.pointer (some ⟨b,0,none⟩),.pointer (some ⟨b,0,none⟩),.slice p0 pd.length p5,.pointer (some ⟨b,0,none⟩),.pointer (some ⟨b,0,none⟩),.pointer (some ⟨b,2,none⟩),.slice p2 pt.length p7,.agg #[m.vd,m.vb,m.vt,m.vu,m.vn],.pointer (some ⟨g,0,none⟩)]∧X.heap.size≤g∧Blk w' g 57 #[m.vd,m.vb,m.vt,m.vu,m.vn]∧m.e=mkR (pd.map TxnQ.e) (pt.map TxnQ.e)∧repK.own w' m∧Below X.heap.size X w') ?_ ?_
 ·have hW:Below X.heap.size X X.drew:=(Below.refl _ _).drew;have au:Nonempty (Lat X):=⟨⟨X,Below.refl _ _⟩⟩
  refine z0h (S:=fun w'=>∃u:Lat X,w'=u.val) (by kernel_rfl) ?_;refine sgr [(0,8)] 3 (by kernel_rfl) ⟨⟨_,hW⟩,rfl⟩ ?_;simp only[pkE];repeat go_big_quiet_step (fail)
  refine wpQuiet_nil ?_;clear f0 f2;generalize X.drew=wd at hW⊢;refine twa 8 9 2 (by kernel_rfl) ?_ ?_
  focus
   skip;refine opc 8 (some 42) 140 #[.slice p0 pd.length p5,.slice p2 pt.length p7] (by kernel_rfl) ?_;refine(ab _ hW).mono ?_;rintro e x1 ⟨m,rfl,em,om,nm,gm,hb⟩;clear nm;replace hW:=hW.trans (hb.mono hW.size);clear hb gm;refine⟨_,rfl,⟨⟨_,hW⟩,rfl⟩,?_⟩;simp only[Act.put,pgE,pjE];refine ona 9 1 rfl (by kernel_rfl) ?_;have Bz:=Blk.new x1 57 #[.slice none 0 0,.slice none 0 0,.slice none 0 0,.slice none 0 0,.slice none 0 0];have aB:X.heap.size≤x1.heap.size:=hW.size;have C:Below x1.heap.size x1 (x1.alloc (.cells #[.slice none 0 0,.slice none 0 0,.slice none 0 0,.slice none 0 0,.slice none 0 0] 57)):=by go_grown
   have ae:∀k∈repK.foot m,k≠x1.heap.size:=fun k hk=>by have:=repK.own_lt om k hk;omega
   replace om:=repK.own_out (F:=[]) om (Out.of_below C) (fun _ _=>by simp);replace hW:=hW.trans (C.mono hW.size);clear C;have af:=Bz.lt
   go_wp2
   refine ThenGo.to ⟨⟨⟨_,hW⟩,rfl⟩,?_⟩;generalize ak:x1.heap.size=g at*;generalize x1.alloc (.cells #[.slice none 0 0,.slice none 0 0,.slice none 0 0,.slice none 0 0,.slice none 0 0] 57)=y1 at*;clear ak
  rotate_left
  focus
   skip;refine z1u 9 _ rfl ?_;have Bz:=Blk.new wd 57 #[.slice none 0 0,.slice none 0 0,.slice none 0 0,.slice none 0 0,.slice none 0 0];have aB:X.heap.size≤wd.heap.size:=hW.size;have C:Below wd.heap.size wd (wd.alloc (.cells #[.slice none 0 0,.slice none 0 0,.slice none 0 0,.slice none 0 0,.slice none 0 0] 57)):=by go_grown
   replace hW:=hW.trans (C.mono hW.size);clear C;have af:=Bz.lt
   go_wp2
   refine ThenGo.to ⟨⟨⟨_,hW⟩,rfl⟩,?_⟩;generalize al:wd.heap.size=g at*;generalize wd.alloc (.cells #[.slice none 0 0,.slice none 0 0,.slice none 0 0,.slice none 0 0,.slice none 0 0] 57)=y2 at*;clear al;refine cla 8 (some 42) 140 #[.slice p0 pd.length p5,.slice p2 pt.length p7] 1 (by kernel_rfl) ?_;refine(ab _ hW).mono ?_;rintro e x2 ⟨m,rfl,em,om,nm,gm,hb⟩;clear nm;have ae:∀k∈repK.foot m,k≠g:=fun k hk=>by have:=gm k hk;have:=Bz.lt;omega
   replace Bz:=Bz.below hb;replace hW:=hW.trans (hb.mono hW.size);clear hb gm;refine⟨_,rfl,⟨⟨_,hW⟩,rfl⟩,?_⟩;simp only[Act.put,pgE,pjE]
  rotate_left
  all_goals
   obtain⟨aD,md,aC,mb,aF,mt,aG,mu,aE,mn⟩:=m;obtain⟨s0,t0,rfl⟩:∃a c,aD=.slice a md.length c:=om.1.shape;obtain⟨s1,t1,rfl⟩:∃a c,aC=.slice a mb.length c:=om.2.1.shape;obtain⟨s2,t2,rfl⟩:∃a c,aF=.slice a mt.length c:=om.2.2.1.shape;obtain⟨s3,t3,rfl⟩:∃a c,aG=.slice a mu.length c:=om.2.2.2.1.shape;obtain⟨s4,t4,rfl⟩:∃a c,aE=.slice a mn.length c:=om.2.2.2.2.shape;refine ona 10 0 rfl (by kernel_rfl) ?_;have aq:X.heap.size≤g:=by omega
   have Rz:=Bz.row #[.slice s0 md.length t0,.slice s1 mb.length t1,.slice s2 mt.length t2,.slice s3 mu.length t3,.slice s4 mn.length t4];have oz:=repK.own_out om (z0r _ g #[.slice s0 md.length t0,.slice s1 mb.length t1,.slice s2 mt.length t2,.slice s3 mu.length t3,.slice s4 mn.length t4]) (fun k hk=>by simp only[List.mem_singleton];exact ae k hk);replace hW:=z0o hW aq #[.slice s0 md.length t0,.slice s1 mb.length t1,.slice s2 mt.length t2,.slice s3 mu.length t3,.slice s4 mn.length t4];refine z0C (by kernel_rfl) 57 _ _ rfl _ #[.slice s0 md.length t0,.slice s1 mb.length t1,.slice s2 mt.length t2,.slice s3 mu.length t3,.slice s4 mn.length t4] rfl rfl 57 _ Bz z8h rfl (by simp[Value.oneCell']) ?_;refine ThenGo.to ⟨⟨⟨_,hW⟩,rfl⟩,?_⟩;refine z0k (by kernel_rfl) ?_;refine⟨rfl,_,⟨_,g,rfl,aq,Rz,em,oz,hW⟩,?_⟩;simp only[z1q,Act.put,pgE,pjE];try rfl
 rintro vs w5 ⟨m,g,rfl,aP,Bg,em,om,M⟩;simp only[z1q,Act.put,pjE];clear f0 f2 ab;have ah:∀t∈pd.map TxnQ.e,t.F=0:=fun t ht=>by obtain⟨q,hq,rfl⟩:=List.mem_map.1 ht;exact ag q hq
 have aj:∀t∈pt.map TxnQ.e,t.F=0:=fun t ht=>by obtain⟨q,hq,rfl⟩:=List.mem_map.1 ht;exact ai q hq
 have O:=z6o g b m (⟨.slice p0 pd.length p5,pd,.slice p1 pb.length p6,pb,.slice p2 pt.length p7,pt,.slice p3 pu.length p8,pu,.slice p4 pn.length p9,pn⟩:RepQ) w5 Bg (J.below M) (repK.own_rd om) (repK.rd_below N M) (by have:=z3s em ah aj (by rw[List.length_map];omega) (by rw[List.length_map];omega);omega) (by dsimp only[RepQ.n];omega);rw[em]at O;dsimp only[RepQ.e]at O;have E:=Y.trans (M.mono Y.size);clear om Bg J N em M Y
 go_wp2_with fail
 refine O.mono ?_;rintro e w6 ⟨rfl,am⟩;replace E:=E.trans (am.mono E.size);clear am O
 cases hS:sameRep (mkR (pd.map TxnQ.e) (pt.map TxnQ.e)) ⟨pd.map TxnQ.e,pb,pt.map TxnQ.e,pu.map USQ.e,pn⟩with
 |false=>
  have h9:CC=(if sameRep (mkR (pd.map TxnQ.e) (pt.map TxnQ.e)) ⟨pd.map TxnQ.e,pb,pt.map TxnQ.e,pu.map USQ.e,pn⟩=true then 0 else 8):=HC.out;have y:Hid (CC=8):=show CC=8 by simpa[hS]using h9
  clear h9;clear HC
  go_wp2
  go_ret;exact⟨by first|(rw[y.out];done)|(rw[y.out];rfl)|(simp[y.out]),E⟩
 |true=>
  have h9:CC=(if sameRep (mkR (pd.map TxnQ.e) (pt.map TxnQ.e)) ⟨pd.map TxnQ.e,pb,pt.map TxnQ.e,pu.map USQ.e,pn⟩=true then 0 else 8):=HC.out;have y:Hid (CC=0):=show CC=0 by simpa[hS]using h9
  clear h9;clear HC
  go_wp2
  go_ret;exact⟨by first|(rw[y.out];done)|(rw[y.out];rfl)|(simp[y.out]),E⟩
def z8F:RepQ:=⟨.slice none 0 0,[],.slice none 0 0,[],.slice none 0 0,[],.slice none 0 0,[],.slice none 0 0,[]⟩
theorem z0L(w:World):repK.own w z8F∧repK.foot z8F=[]:=by
 refine⟨⟨(Kind.own_nil w).1,(Kind.own_nil w).1,(Kind.own_nil w).1,(Kind.own_nil w).1,(Kind.own_nil w).1⟩,?_⟩;show txnK.fp (.slice none 0 0) []++(itemK.fp (.slice none 0 0) []++(txnK.fp (.slice none 0 0) []++(ussK.fp (.slice none 0 0) []++itemK.fp (.slice none 0 0) [])))=[]
 rw[(Kind.own_nil (K:=txnK) w).2,(Kind.own_nil (K:=itemK) w).2,(Kind.own_nil (K:=ussK) w).2];rfl
theorem z4X:(Tryz.prog.info? 61).map (·.size)=some 8:=by kernel_rfl
theorem z2E(c:Int)(w:World):
  Calls Tryz.prog 79 #[.int .i64 c] w fun e w'=>e=.returned (.agg #[.int .i64 c,.int .i64 0,.int .i64 0,.slice none 0 0,.slice none 0 0,.slice none 0 0,.slice none 0 0,.slice none 0 0])∧Below w.heap.size w w':=by
 have hB:Below w.heap.size w (w.alloc (.cells #[.int .i64 0,.int .i64 0,.int .i64 0,.slice none 0 0,.slice none 0 0,.slice none 0 0,.slice none 0 0,.slice none 0 0] 61)):=by go_grown
 have Rb:=Blk.new w 61 #[.int .i64 0,.int .i64 0,.int .i64 0,.slice none 0 0,.slice none 0 0,.slice none 0 0,.slice none 0 0,.slice none 0 0];have Rr:=Rb.row #[.int .i64 c,.int .i64 0,.int .i64 0,.slice none 0 0,.slice none 0 0,.slice none 0 0,.slice none 0 0,.slice none 0 0];have hBr:=z0o hB (g:=w.heap.size) (Nat.le_refl _) #[.int .i64 c,.int .i64 0,.int .i64 0,.slice none 0 0,.slice none 0 0,.slice none 0 0,.slice none 0 0,.slice none 0 0];go_enter Tryz.func79,Tryz.ntmps79
 go_wp2_with (first|(refine z0C (by kernel_rfl) 61 _ _ rfl _ #[.int .i64 c,.int .i64 0,.int .i64 0,.slice none 0 0,.slice none 0 0,.slice none 0 0,.slice none 0 0,.slice none 0 0] rfl rfl 61 _ Rb z4X rfl (by simp[Value.oneCell']) ?_))
 obtain⟨z0,z1,z2,z3,z4,z5,z6,z7⟩:=Rr.cel8;exact bodyPost_ret (v:=.agg #[.int .i64 c,.int .i64 0,.int .i64 0,.slice none 0 0,.slice none 0 0,.slice none 0 0,.slice none 0 0,.slice none 0 0]) (by simp[results,Tryz.results79,go_sem,z0,z1,z2,z3,z4,z5,z6,z7]) rfl ⟨rfl,hBr⟩
theorem z8G(c:Int)(w:World):(binOp .neq 107 (.iface 188 (.agg #[.int .i64 c])) .nilIface).run Tryz.prog w=.ok (.bool true) w:=by kernel_rfl
theorem z8H(w:World):(binOp .neq 107 .nilIface .nilIface).run Tryz.prog w=.ok (.bool false) w:=by kernel_rfl
theorem z4Y{w:World}{B:Nat}{v:Value}{ps qs:List TxnQ}(o:w.ownsRow B 44 4 v (ps++qs).length (txnK.row (ps++qs)))(h1:∀p∈ps,txnK.rd w p)(h2:∀p∈qs,txnK.rd w p):txnK.At w v (ps++qs):=by
 obtain⟨a,c,rfl⟩:=z0b o;exact⟨a,c,rfl,Lies.own o,fun p hp=>(List.mem_append.1 hp).elim (h1 p) (h2 p)⟩
theorem At.rds{w:World}{v:Value}{ps:List TxnQ}(h:txnK.At w v ps):∀p∈ps,txnK.rd w p:=by
 obtain⟨a,c,_,_,h2⟩:=h;exact h2
theorem RecPost.row{w w':World}{vN iN vU iU:Value}{D E:List TxnD}(h:RecPost w w' vN iN vU iU D E){g:Nat}(hg:g<w.heap.size)(cs:Array Value):RecPost w (w'.setRow g cs) vN iN vU iU D E:=by
 obtain⟨ds,us,rb,B0,R,e1,e2,h1,h2⟩:=h;have hO:=z0r w' g cs;have nF:∀ {k},B0≤k→k∉[g]:=fun hk hm=>by simp only[List.mem_singleton]at hm;omega
 have hrb:rb∉[g]:=fun hm=>by simp only[List.mem_singleton]at hm;omega
 exact⟨ds,us,rb,B0,⟨(hO.block rb R.B.lt hrb).trans R.B,z0J R.oN hO (fun k hk=>nF (R.lN k hk)),R.aN,z0J R.oU hO (fun k hk=>nF (R.lU k hk)),fun p hp=>⟨(R.aU p hp).1,(R.aU p hp).2.out hO (fun k hk=>by rw[z0S]at hk;exact nF (R.d3 p hp k hk).1)⟩,R.jN.out hO (fun k hk=>by rw[z0s]at hk;exact nF (R.d1 k hk).1),R.jU.out hO (fun k hk=>by rw[z0s]at hk;exact nF (R.d2 k hk).1),R.nu,R.lN,R.lU,R.d1,R.d2,R.d3⟩,e1,e2,h1,h2⟩
theorem RecPost.shapes{w w':World}{vN iN vU iU:Value}{D E:List TxnD}(h:RecPost w w' vN iN vU iU D E):(∃a n c,vN=.slice a n c)∧(∃a n c,iN=.slice a n c)∧(∃a n c,vU=.slice a n c)∧(∃a n c,iU=.slice a n c):=by
 obtain⟨ds,us,rb,B0,R,e1,e2,h1,h2⟩:=h;obtain⟨a1,c1,s1⟩:=z0b R.oN;obtain⟨a2,c2,s2⟩:=R.jN.shape;obtain⟨a3,c3,s3⟩:=z0b R.oU;obtain⟨a4,c4,s4⟩:=R.jU.shape;exact⟨⟨_,_,_,s1⟩,⟨_,_,_,s2⟩,⟨_,_,_,s3⟩,⟨_,_,_,s4⟩⟩
theorem z5D{w:World}{g:Nat}{va:Value}{y:List ActD}(h:actK.At w va y)(B:Blk w g 116 #[.slice none 0 0,.slice none 0 0,.slice none 0 0,.slice none 0 0])(cs:Array Value):actK.At (w.setRow g cs) va y:=by
 obtain⟨a,c,rfl,hL,_⟩:=h;refine⟨a,c,rfl,?_,fun _ _=>trivial⟩;rcases hL with h0|⟨b,d,rfl,C,hc⟩
 ·exact Or.inl h0
 ·by_cases he:actK.row y=[]
  ·exact Or.inl he
  ·refine Or.inr ⟨b,d,rfl,by simpa using C,fun j x hj=>?_⟩;have D:b≠g:=by
    rintro rfl;obtain⟨z,r,E⟩:∃z r,y=z::r:=by
     cases y with
     |nil=>exact absurd rfl he
     |cons z r=>exact⟨z,r,rfl⟩
    have h0:=hc 0 (.int .i64 z.kind) (by rw[E];rfl);rw[Nat.add_zero]at h0;have hB:w.heap[b]?=some (.cells #[.slice none 0 0,.slice none 0 0,.slice none 0 0,.slice none 0 0] 116 (0,0)):=B;have A:w.cell? ⟨b,d,none⟩=(#[.slice none 0 0,.slice none 0 0,.slice none 0 0,.slice none 0 0]:Array Value)[d]?:=by
     rcases Nat.lt_or_ge d 4 with h4|h4
     ·match d,h4 with
      |0,_=>exact B.cell 0 _ rfl
      |1,_=>exact B.cell 1 _ rfl
      |2,_=>exact B.cell 2 _ rfl
      |3,_=>exact B.cell 3 _ rfl
     ·have:w.cell? ⟨b,d,none⟩=none:=by
       simp[World.cell?,hB,show¬d<4 by omega]
      rw[this,Array.getElem?_eq_none (by simpa using h4)]
    rw[A]at h0
    match d,h0 with
    |0,h0=>simp at h0
    |1,h0=>simp at h0
    |2,h0=>simp at h0
    |3,h0=>simp at h0
    |(n+4),h0=>simp at h0
   rw[World.cell?_of_block (w:=w) (a:=⟨b,d+j,none⟩) (setRow_other w g b cs D)];exact hc j x hj
theorem RecPost.rebase{w w':World}{vN iN vU iU:Value}{D E:List TxnD}(h:RecPost w w' vN iN vU iU D E)(hb:Below w.heap.size w w'){g:Nat}(B:Blk w g 116 #[.slice none 0 0,.slice none 0 0,.slice none 0 0,.slice none 0 0])(cs:Array Value):
  RecPost (w.setRow g cs) (w'.setRow g cs) vN iN vU iU D E∧Below (w.setRow g cs).heap.size (w.setRow g cs) (w'.setRow g cs):=by
 have hg:=B.lt;obtain⟨ds,us,rb,B0,R,e1,e2,h1,h2⟩:=h.row hg cs;refine⟨⟨ds,us,rb,B0,⟨R.B,R.oN,fun p hp=>z5D (R.aN p hp) B cs,R.oU,fun p hp=>⟨z5D (R.aU p hp).1 B cs,(R.aU p hp).2⟩,R.jN,R.jU,R.nu,R.lN,R.lU,R.d1,R.d2,R.d3⟩,e1,e2,by simpa using h1,h2⟩,?_⟩;refine⟨hb.os,hb.tape,hb.output,by simpa using hb.size,fun k hk=>?_⟩;rw[size_setRow]at hk;by_cases hkg:k=g
 ·subst hkg;exact((B.below hb).row cs:_).trans ((B.row cs).symm)
 ·rw[setRow_other w' g k cs hkg,setRow_other w g k cs hkg];exact hb.block k hk
theorem z4Z:(Tryz.prog.info? 116).map (·.size)=some 4:=by kernel_rfl
theorem z2F{α:Type}{f:α→α→Bool}{g:List α→List α→Bool}(h1:∀x r y s,g (x::r) (y::s)=(f x y && g r s))(h2:∀x r,g (x::r) []=false)(h3:∀y s,g [] (y::s)=false)(hf:∀x y,f x y=true→x=y):∀xs ys,g xs ys=true→xs=ys
 |[],[],_=>rfl
 |[],y::s,h=>by rw[h3]at h;cases h
 |x::r,[],h=>by rw[h2]at h;cases h
 |x::r,y::s,h=>by
  rw[h1,Bool.and_eq_true]at h;rw[hf x y h.1,z2F h1 h2 h3 hf r s h.2]
theorem z6E (xs ys:List ActD) (h:sameAs xs ys=true):xs=ys:=z2F (f:=z1f) (fun _ _ _ _=>rfl) (fun _ _=>rfl) (fun _ _=>rfl) (fun x y h=>by
 obtain⟨x0,x1,x2⟩:=x;obtain⟨y0,y1,y2⟩:=y;simp[z1f]at h;rw [h.1,h.2.1,h.2.2]) xs ys h
theorem z4y (xs ys:List TxnD) (h:sameTs xs ys=true):xs=ys:=z2F (f:=z0A) (fun _ _ _ _=>rfl) (fun _ _=>rfl) (fun _ _=>rfl) (fun x y h=>by
 obtain⟨x0,x1,x2,x3⟩:=x;obtain⟨y0,y1,y2,y3⟩:=y;simp only[z0A,Bool.and_eq_true,beq_iff_eq]at h;rw [h.1.1.1,h.1.1.2,h.1.2,z6E _ _ h.2]) xs ys h
theorem z6F (xs ys:List UndoD) (h:sameUs xs ys=true):xs=ys:=z2F (f:=z1m) (fun _ _ _ _=>rfl) (fun _ _=>rfl) (fun _ _=>rfl) (fun x y h=>by
 obtain⟨x0,x1,x2⟩:=x;obtain⟨y0,y1,y2⟩:=y;simp[z1m]at h;rw [h.1,h.2.1,h.2.2]) xs ys h
theorem z5X(xs ys:List (List UndoD))(h:sameUss xs ys=true):xs=ys:=z2F (f:=sameUs) (fun _ _ _ _=>rfl) (fun _ _=>rfl) (fun _ _=>rfl) (fun x y h=>z6F x y h) xs ys h
theorem z6G{x y:RepE}(h:sameRep x y=true):x=y:=by
 obtain⟨x0,x1,x2,x3,x4⟩:=x;obtain⟨y0,y1,y2,y3,y4⟩:=y;simp only[sameRep,Bool.and_eq_true]at h;rw[z4y _ _ h.1,z5i h.2.1,z4y _ _ h.2.2.1,z5X _ _ h.2.2.2.1,z5i h.2.2.2.2]
theorem z7z{r:RepE}(h:repF r=0):r=mkR r.done r.tent:=(z6G (z2C h).2.2).symm
theorem z3X{w:World}{a:Option Addr}{n cap:Nat}{zs:List ItemD}(h:itemK.At w (.slice a n cap) zs):ItemRow w a zs:=by
 obtain⟨a',c',e,hL,_⟩:=h;simp only[Value.slice.injEq]at e;rw[e.1];exact hL
def frK(d fs:List TxnD):Bool:=fs.any (fun t=>knw d t)
theorem z7A{d fs:List TxnD}{t:TxnD}(h:t∈fs)(hk:knw d t=true):frK d fs=true:=List.any_eq_true.2 ⟨t,h,hk⟩
theorem z8j{d fs:List TxnD}(h:∀j,j<fs.length→knw d (fs.getD j z0I)=false):frK d fs=false:=by
 unfold frK;rw[List.any_eq_false];intro t ht;obtain⟨j,hj,rfl⟩:=List.mem_iff_getElem.1 ht;have:=h j hj;simpa[List.getD,hj]using this
theorem z85{d fs:List TxnD}(h:frK d fs=false):∀t∈fs,knw d t=false:=fun t ht=>by
 have:=List.any_eq_false.1 h t ht;simpa using this
def dlC(r:RepE)(fs:List TxnD):Int:=if repF r=0 then(if lstF fs=0 then(if frK r.done fs=true then 6 else if 16<r.done.length+fs.length then 7 else 0)else lstF fs)else repF r
def dlA(r:RepE)(fs:List TxnD):Int:=if dlC r fs=0 then plB r.tent fs else 0
def dlE(r:RepE)(fs:List TxnD):RepE:=if dlC r fs=0 then mkR (r.done++fs) (plK r.tent fs)else⟨[],[],[],[],[]⟩
theorem z40(r:RepE)(fs:List TxnD):(repF r≠0∧dlC r fs=repF r)∨(repF r=0∧lstF fs≠0∧dlC r fs=lstF fs)∨(repF r=0∧lstF fs=0∧frK r.done fs=true∧dlC r fs=6)∨
  (repF r=0∧lstF fs=0∧frK r.done fs=false∧16<r.done.length+fs.length∧dlC r fs=7)∨(repF r=0∧lstF fs=0∧frK r.done fs=false∧¬16<r.done.length+fs.length∧dlC r fs=0):=by
 unfold dlC;by_cases h0:repF r=0
 ·by_cases h1:lstF fs=0
  ·cases h2:frK r.done fs<;>by_cases h4:16<r.done.length+fs.length<;>simp[h0,h1,h2,h4]
  ·simp[h0,h1]
 ·simp[h0]
theorem z7B{ds es:List TxnD}{t:TxnD}(h:t∈z2Q ds es):t∈ds:=by
 unfold z2Q at h;exact(List.mem_filter.1 h).1
theorem z6c{ds fs:List TxnD}{t:TxnD}(h:t∈plK ds fs):t∈ds:=by
 unfold plK at h;split at h
 ·split at h
  ·exact List.mem_of_mem_drop h
  ·exact List.mem_of_mem_drop (z7B h)
 ·cases h
theorem z71(ds fs:List TxnD):(plK ds fs).length≤ds.length:=by
 unfold plK;split
 ·split
  ·simp
  ·refine Nat.le_trans (show(z2Q _ _).length≤(ds.drop (comN ds fs)).length from by unfold z2Q;exact List.length_filter_le _ _) (by simp)
 ·simp
theorem z6H{a b:List TxnD}(h:lstF (a++b)=0):lstF b=0:=by
 have h':=(z04 _).1 h;refine(z04 _).2 ⟨by have:=h'.1;simp at this;omega,fun t ht=>h'.2.1 t (List.mem_append_right _ ht),(List.pairwise_append.1 h'.2.2).2.1⟩
theorem z2G{r:RepE}{fs:List TxnD}(h:dlC r fs=0):repF r=0∧lstF fs=0∧frK r.done fs=false∧r.done.length+fs.length≤16∧bthF r.tent fs=0∧(∀t∈r.done++fs,t.F=0)∧(∀t∈plK r.tent fs,t.F=0)∧(plK r.tent fs).length≤8:=by
 rcases z40 r fs with⟨a,b⟩|⟨_,a,b⟩|⟨_,_,_,b⟩|⟨_,_,_,_,b⟩|⟨a,b,c,d,_⟩
 ·exact absurd (b.symm.trans h) a
 ·exact absurd (b.symm.trans h) a
 ·rw[b]at h;exact absurd h (by decide)
 ·rw[b]at h;exact absurd h (by decide)
 ·have hz:=z2C a;have ha:=((z04 _).1 hz.2.1).2.1;have hb:=((z04 _).1 b).2.1;refine⟨a,b,c,by omega,?_,fun t ht=>?_,fun t ht=>ha t (List.mem_append_right _ (z6c ht)),Nat.le_trans (z71 _ _) hz.1.2⟩
  ·unfold bthF;rw[if_pos (z6H hz.2.1)];exact b
  ·rcases List.mem_append.1 ht with ht|ht
   ·exact ha t (List.mem_append_left _ ht)
   ·exact hb t ht
theorem z5E(i s q:Int)(a:Option Addr)(n c:Nat)(xs:List ActD)(vd uv1 uv2 uv3 uv4:Value)(qd:List TxnQ)(bx:Nat)(w:World)(hX:Blk w bx 57 #[vd,uv1,uv2,uv3,uv4])(hD:txnK.At w vd qd)(hqd:qd.length≤1048576):
  Calls Tryz.prog 130 #[.agg #[.int .i64 i,.int .i64 s,.int .i64 q,.slice a n c],.pointer (some ⟨bx,0,none⟩)] w fun e w'=>e=.returned (.bool (knw (qd.map TxnQ.e) ⟨i,s,q,xs⟩))∧Below w.heap.size w w':=by
 have hB:Below w.heap.size w (w.alloc (.cells #[.int .i64 i,.int .i64 s,.int .i64 q,.slice a n c] 44)):=by go_grown
 have hX':=hX.below hB;have hq:=z1r vd qd ⟨i,s,q,xs⟩ a n c _ (hD.below hB) hqd;dsimp only at hq;obtain⟨da,dk,rfl⟩:=hD.shape;have x0:=hX'.cell 0 _ rfl;generalize knw (qd.map TxnQ.e) ⟨i,s,q,xs⟩=E at*;go_enter Tryz.func130,Tryz.ntmps130
 go_wp2_with fail
 refine hq.mono ?_;rintro e w2 ⟨rfl,hb2⟩;replace hB:=hB.trans (hb2.mono hB.size)
 go_wp2
 go_ret;exact⟨rfl,hB⟩
theorem z4g(v:Value)(ps:List TxnQ)(vd D I J L:Value)(qd:List TxnQ)(bx:Nat)(w:World)(h:txnK.At w v ps)(hX:Blk w bx 57 #[vd,D,I,J,L])(hD:txnK.At w vd qd)(T:qd.length≤1048576)(hl:ps.length≤1048576):
  Calls Tryz.prog 181 #[v,.func (.func 130) #[] #[.pointer (some ⟨bx,0,none⟩)]] w fun e w'=>∃r:Int,e=.returned (.int .i64 r)∧(frK (qd.map TxnQ.e) (ps.map TxnQ.e)=true→0≤r)∧(frK (qd.map TxnQ.e) (ps.map TxnQ.e)=false→r<0)∧Below w.heap.size w w':=by
 obtain⟨a,cap,rfl⟩:=h.shape;generalize hE:frK (qd.map TxnQ.e) (ps.map TxnQ.e)=E;have HE:Hid (frK (qd.map TxnQ.e) (ps.map TxnQ.e)=E):=hE;clear hE;go_enter Tryz.func181,Tryz.ntmps181
 go_wp2
 go_loopw[8] (fun j wr=>∃k:Nat,k≤ps.length∧j=.int .i64 k∧Below w.heap.size w wr∧Hid (∀j,j<k→knw (qd.map TxnQ.e) ((ps.map TxnQ.e).getD j z0I)=false)) (fun j _=>ps.length-(intOf j).toNat)
 case atStart=>exact⟨0,Nat.zero_le _,rfl,Below.refl _ _,fun j hj=>absurd hj (Nat.not_lt_zero _)⟩
 case round=>
  obtain⟨k,hk,rfl,hb,HA⟩:=hrel;by_cases z:k<ps.length
  ·obtain⟨b',U,rfl,N,hc,y⟩:=(h.below hb).cell (by decide) k z;have d:∀j x,(txnK.cells ps[k])[j]?=some x→wr.cell? ⟨b',U+k*4+j,none⟩=some x:=hc;have c0:=d 0 (.int .i64 ps[k].i) rfl;have c1:=d 1 (.int .i64 ps[k].s) rfl;have c2:=d 2 (.int .i64 ps[k].q) rfl;have c3:=d 3 (ps[k].va) rfl;rw[Nat.add_zero]at c0;have HY:Hid (knw (qd.map TxnQ.e) (TxnQ.e ps[k])=true→E=true):=fun hx=>by rw[←HE.out];exact z7A (t:=TxnQ.e ps[k]) (List.mem_map.2 ⟨ps[k],List.getElem_mem z,rfl⟩) hx
   have HN:Hid (knw (qd.map TxnQ.e) (TxnQ.e ps[k])=false→∀j,j<k+1→knw (qd.map TxnQ.e) ((ps.map TxnQ.e).getD j z0I)=false):=fun hx j hj=>by
    by_cases O:j=k
    ·subst O;rw[z03 ps j z];exact hx
    ·exact HA.out j (by omega)
   clear HA hc d;generalize ps[k]=p at*;obtain⟨i,s,q,V,c⟩:=p;replace y:actK.At wr V c:=y;obtain⟨aa,ac,rfl⟩:=y.shape;dsimp only[TxnQ.e]at c0 c1 c2 c3 HY HN;have hq:=z5E i s q aa c.length ac c vd D I J L qd bx wr (hX.below hb) (hD.below hb) T;generalize knw (qd.map TxnQ.e) ⟨i,s,q,c⟩=S at*;have C:(k:Int)<(ps.length:Int):=by omega
   go_wp2_with fail
   refine hq.mono ?_;rintro e w2 ⟨rfl,A⟩;replace hb:=hb.trans (A.mono hb.size);clear hq c0 c1 c2 c3 A y N
   cases S with
   |true=>
    have E1:Hid (E=true):=HY.out rfl;clear HY HN
    go_wp2
    go_ret;refine⟨_,rfl,fun _=>by omega,fun h0=>?_,hb⟩;rw[E1.out]at h0;exact absurd h0 (by decide)
   |false=>
    have M:Hid _:=HN.out rfl;clear HY HN
    go_wp2
    go_roundw
    case rel=>exact⟨k+1,by omega,by go_num,hb,M.out⟩
    case measure=>simp[intOf];omega
  ·have E1:Hid (E=false):=by rw[←HE.out];exact z8j (fun j hj=>HA.out j (by simp at hj;omega))
   have C:¬(k:Int)<(ps.length:Int):=by omega
   clear HA HE
   go_wp2
   go_ret;refine⟨_,rfl,fun h0=>?_,fun _=>by omega,hb⟩;rw[E1.out]at h0;exact absurd h0 (by decide)
theorem z2T(v:Value)(ps:List TxnQ)(vd uv1 uv2 uv3 uv4:Value)(qd:List TxnQ)(bx:Nat)(w:World)(h:txnK.At w v ps)(hX:Blk w bx 57 #[vd,uv1,uv2,uv3,uv4])(hD:txnK.At w vd qd)(hqd:qd.length≤1048576)(hl:ps.length≤1048576):
  Calls Tryz.prog 129 #[v,.func (.func 130) #[] #[.pointer (some ⟨bx,0,none⟩)]] w fun e w'=>e=.returned (.bool (frK (qd.map TxnQ.e) (ps.map TxnQ.e)))∧Below w.heap.size w w':=by
 have hq:=z4g v ps vd uv1 uv2 uv3 uv4 qd bx w h hX hD hqd hl;obtain⟨a,cap,rfl⟩:=h.shape;generalize frK (qd.map TxnQ.e) (ps.map TxnQ.e)=E at*;go_enter Tryz.func129,Tryz.ntmps129
 go_wp2_with fail
 refine hq.mono ?_;rintro e w2 ⟨r,rfl,h1,h2,hb⟩
 cases E with
 |true=>
  have h0:0≤r:=h1 rfl;clear h1 h2
  go_wp2
  go_ret;exact⟨by simp[h0],hb⟩
 |false=>
  have h0:¬0≤r:=by have:=h2 rfl;omega
  clear h1 h2
  go_wp2
  go_ret;exact⟨by simp[h0],hb⟩
theorem z4h(p:RepQ)(vf:Value)(fs:List TxnQ)(w:World)(h:repK.rd w p)(nd:z2o p.vd)(nt:z2o p.vt)(hl:p.n≤1048576)(hT:txnK.At w vf fs)(N:fs.length+nmL TxnQ.n fs≤1048576):
  Calls Tryz.prog 74 #[.agg #[p.vd,p.vb,p.vt,p.vu,p.vn],vf] w fun e w'=>e=.returned (misC (dlC p.e (fs.map TxnQ.e)))∧Below w.heap.size w w':=by
 have J:=fun w h=>z3U p w h nd nt hl
 have hr:=fun(w':World) hb=>repK.rd_below (w':=w') h hb
 have A:=z40 p.e (fs.map TxnQ.e);have O:=fun w h=>z1w vf fs w h N
 have T:p.done.length≤1048576:=by dsimp only[RepQ.n]at hl;omega
 have I:=fun bx w' hA hX hD=>z2T vf fs p.vd p.vb p.vt p.vu p.vn p.done bx w' hA hX hD T (by omega)
 have M:frK p.e.done (fs.map TxnQ.e)=frK (p.done.map TxnQ.e) (fs.map TxnQ.e):=rfl;rw[M]at A;have L:p.e.done.length=p.done.length:=by simp[RepQ.e]
 rw[L,List.length_map]at A;have ad:(fs.length:Int)≤1048576:=by omega
 have U:(p.done.length:Int)≤1048576:=by omega
 have z:∀w,repK.rd w p→Calls Tryz.prog 87 #[.agg #[p.vd,p.vb,p.vt,p.vu,p.vn]] w fun e w'=>∃ (a0 a1 a2 a3:Option Addr) (l0 c0 l1 c1 l2 c2 l3 c3:Nat),e=.returned (.tuple #[.agg #[.slice a0 l0 c0,.slice a1 l1 c1,.slice a2 l2 c2,.slice a3 l3 c3],misC (repF p.e)])∧Below w.heap.size w w':=fun w h=>(J w h).mono fun e w' hp=>by
  obtain⟨a0,a1,a2,a3,l0,c0,l1,c1,l2,c2,l3,c3,he,_,hb⟩:=hp;exact⟨a0,a1,a2,a3,l0,c0,l1,c1,l2,c2,l3,c3,he,hb⟩
 have ae:∀ (fn:Fn) (y cap:Array Value) (w:World),(Instr.makeFunc fn y cap).run Tryz.prog w=.ok (.func fn y cap) w:=fun _ _ _ _=>rfl
 obtain⟨fa,fk,rfl⟩:=hT.shape;clear J hl N M L;generalize dlC p.e (fs.map TxnQ.e)=C at*;generalize lstF (fs.map TxnQ.e)=LF at*;generalize frK (p.done.map TxnQ.e) (fs.map TxnQ.e)=FK at*;generalize repF p.e=RF at*;obtain⟨X,pd,V,pb,Z,pt,aa,pu,Y,pn⟩:=p;obtain⟨p0,p5,rfl⟩:∃a c,X=.slice a pd.length c:=h.1.shape;obtain⟨p1,p6,rfl⟩:∃a c,V=.slice a pb.length c:=h.2.1.shape;obtain⟨p2,p7,rfl⟩:∃a c,Z=.slice a pt.length c:=h.2.2.1.shape;obtain⟨p3,p8,rfl⟩:∃a c,aa=.slice a pu.length c:=h.2.2.2.1.shape;obtain⟨p4,p9,rfl⟩:∃a c,Y=.slice a pn.length c:=h.2.2.2.2.shape;dsimp only at hr A I U z T;have D:Below w.heap.size w (w.alloc (.cells #[.slice p0 pd.length p5,.slice p1 pb.length p6,.slice p2 pt.length p7,.slice p3 pu.length p8,.slice p4 pn.length p9] 57)):=by go_grown
 have BA:=Blk.new w 57 #[.slice p0 pd.length p5,.slice p1 pb.length p6,.slice p2 pt.length p7,.slice p3 pu.length p8,.slice p4 pn.length p9];go_enter Tryz.func74,Tryz.ntmps74
 go_wp2_with fail
 generalize w.alloc (.cells #[.slice p0 pd.length p5,.slice p1 pb.length p6,.slice p2 pt.length p7,.slice p3 pu.length p8,.slice p4 pn.length p9] 57)=W at*;refine(z W (hr W D)).mono ?_;rintro e w1 ⟨a0,a1,a2,a3,l0,c0,l1,c1,l2,c2,l3,c3,rfl,hb⟩;replace BA:=BA.below hb;replace D:=z0l D hb;clear hb z;have E:Below w1.heap.size w1 (w1.alloc (.cells #[.slice a0 l0 c0,.slice a1 l1 c1,.slice a2 l2 c2,.slice a3 l3 c3] 116)):=by go_grown
 have x:=BA.below E;have d:=z0l D E;clear E BA;have e1:=z8G;have e2:=z8H;rcases A with⟨h0,hC⟩|⟨h0,h1,hC⟩|⟨h0,h1,h2,hC⟩|⟨h0,h1,h2,h4,hC⟩|⟨h0,h1,h2,h4,hC⟩
 ·have HC:Hid (C=RF):=hC;clear hC;rw[show misC RF=.iface 188 (.agg #[.int .i64 RF])from if_neg h0]
  go_wp2
  go_ret;exact⟨by rw[HC.out,show misC RF=.iface 188 (.agg #[.int .i64 RF])from if_neg h0];rfl,d⟩
 all_goals
  rw[show misC RF=.nilIface from if_pos h0];have HC:Hid (C=_):=hC;clear hC
  go_wp2_with fail
  generalize w1.alloc (.cells #[.slice a0 l0 c0,.slice a1 l1 c1,.slice a2 l2 c2,.slice a3 l3 c3] 116)=W1 at*;refine(O W1 (hT.below d)).mono ?_;rintro e w2 ⟨rfl,hb⟩;replace x:=x.below hb;replace d:=z0l d hb;clear hb O
 ·have ab:(LF !=0)=true:=by simpa using h1
  go_wp2
  go_ret;exact⟨by rw[HC.out,show misC LF=.iface 188 (.agg #[.int .i64 LF])from if_neg h1];rfl,d⟩
 all_goals
  subst h1
  go_wp2_with fail
  refine(I _ w2 (hT.below d) x (hr w2 d).1).mono ?_;rintro e w3 ⟨rfl,hb⟩;replace x:=x.below hb;replace d:=z0l d hb;clear hb I
 ·go_wp2
  go_ret;exact⟨by rw[HC.out];rfl,d⟩
 ·have e8:(16:Int)<(pd.length:Int)+(fs.length:Int):=by omega
  have d0:=x.cell 0 _ rfl
  go_wp2
  go_ret;exact⟨by rw[HC.out];rfl,d⟩
 ·have e8:¬(16:Int)<(pd.length:Int)+(fs.length:Int):=by omega
  have d0:=x.cell 0 _ rfl
  go_wp2
  go_ret;exact⟨by rw[HC.out];rfl,d⟩
theorem z72{x y:ActD}(h:z1f x y=true):x=y:=by
 obtain⟨a,b,c⟩:=x;obtain⟨a',b',c'⟩:=y;simp only[z1f,Bool.and_eq_true,beq_iff_eq]at h;obtain⟨rfl,rfl,rfl⟩:=h;rfl
theorem z5F:∀ {x y:List ActD},sameAs x y=true→x=y
 |[],[],_=>rfl
 |[],_::_,h=>by simp[sameAs]at h
 |_::_,[],h=>by simp[sameAs]at h
 |a::r,b::s,h=>by
  simp only[sameAs,Bool.and_eq_true]at h;rw[z72 h.1,z5F h.2]
theorem z73{x y:TxnD}(h:z0A x y=true):x=y:=by
 obtain⟨a,b,c,d⟩:=x;obtain⟨a',b',c',d'⟩:=y;simp only[z0A,Bool.and_eq_true,beq_iff_eq]at h;obtain⟨⟨⟨rfl,rfl⟩,rfl⟩,h4⟩:=h;rw[z5F h4]
theorem z5G(x:List ActD):sameAs x x=true:=by
 induction x with
 |nil=>rfl
 |cons a r ih=>simp[sameAs,z1f,ih]
theorem z5Y(x:TxnD):z0A x x=true:=by simp[z0A,z5G]
theorem z1Y(x:List TxnD):sameTs x x=true:=by
 induction x with
 |nil=>rfl
 |cons a r ih=>simp[sameTs,z5Y,ih]
theorem z42:∀ (xs ys:List TxnD),xs.take (comN xs ys)=ys.take (comN xs ys)
 |[],ys=>by simp[comN]
 |x::r,[]=>by simp[comN]
 |x::r,y::s=>by
  rw[comN];split
  ·rename_i h
   rw[List.take_succ_cons,List.take_succ_cons,z42 r s,z73 h]
  ·simp
theorem z8I{xs ds:List TxnD}(h:lstF ds=0)(hs:xs.Sublist ds):lstF xs=0:=by
 obtain⟨h1,h2,h3⟩:=(z04 ds).1 h;exact(z04 xs).2 ⟨Nat.le_trans hs.length_le h1,fun t ht=>h2 t (hs.subset ht),h3.sublist hs⟩
section
variable {ds ds':List TxnD} (hB:bthF ds ds'=0)
include hB
theorem z8J:(plK ds ds').Sublist ds:=by
 unfold plK;rw[if_pos hB];split
 ·exact List.drop_sublist _ _
 ·exact List.filter_sublist.trans (List.drop_sublist _ _)
theorem z8K:lstF (plK ds ds')=0:=z8I (z08 hB).1 (z8J hB)
theorem z8L:∀t∈plK ds ds',knw ds' t=false:=by
 unfold plK;rw[if_pos hB];split
 ·rename_i h0
  intro t ht;have e:ds'=ds.take (comN ds ds'):=by
   rw[z42];have:=List.take_append_drop (comN ds ds') ds';rw[h0,List.append_nil]at this;exact this.symm
  rw[knw_false];intro a ha;rw[e]at ha;have h3:=((z04 ds).1 (z08 hB).1).2.2;rw[←List.take_append_drop (comN ds ds') ds,List.pairwise_append]at h3;exact h3.2.2 a ha t ht
 ·intro t ht;have:=(List.mem_filter.1 ht).2;simpa using this
theorem pl_n:plN ds ds'=(comN ds ds':Int)∧plA ds ds'=ds'.drop (comN ds ds'):=⟨if_pos hB,if_pos hB⟩
end
end Go.Proofs.YtciofogeiohleaaGreatDoor

import Derived.Test.YtjjoahhnkpjolaaGreatDoorONBF
set_option linter.unusedVariables false
set_option linter.unusedSimpArgs false
set_option maxRecDepth 100000
set_option maxHeartbeats 16000000
namespace Go.Proofs.YtjjoahhnkpjolaaGreatDoor
open Go.RowKit Go.BigFrame
open TxnQ renaming e->m
open Nat renaming le_refl->f
open Blk renaming new->Va
open Out renaming setCell->Vb
open IntKind renaming i64->G
open Value renaming int->B,slice->K
open Go.Proofs.Tryz renaming prog->P
open Go.Proofs.Tryz
section
open Go.Maps
theorem q3o(a:Option Addr)(cap:Nat)(xs:List ItemD)(v:Value)(ds:List TxnD)(w:World)(h:ItemRow w a xs)(hN:z8S a xs.length cap)(ht:TxnsAt w v ds)(h0:itemsF xs=0)(h2:z85 ds=0):
  Calls P 160 #[K a xs.length cap,v] w fun e w'=>∃a1 c1 a2 c2 a3 c3,e=.returned (.agg #[B G (eaC xs ds),.slice a1 (q5B xs ds).length c1,.slice a2 (q5C xs ds).length c2,.slice a3 (eaI xs ds).length c3])∧
   OwnA w.heap.size w'.heap.size w' (.slice a1 (q5B xs ds).length c1) (.slice a2 (q5C xs ds).length c2) (.slice a3 (eaI xs ds).length c3) (q5B xs ds) (q5C xs ds) (eaI xs ds)∧Below w.heap.size w w':=by
 obtain⟨h8,g⟩:=z37 h0;obtain⟨bj,hz⟩:=q4h h2;have HZ:Hid (∀t∈ds,t.F=0):=hz;have aZ:Hid (eaC xs ds=0∧q5B xs ds=z6a xs ds∧q5C xs ds=z6b xs ds∧eaI xs ds=allI xs ds):=q6v h0 h2;clear h0 h2 hz;obtain⟨i0,hi,aW,aX,aY⟩:=info_parts z60;have aH:Below w.heap.size w ((w.alloc (.cells #[B G 0,K none 0 0,K none 0 0,K none 0 0] 235)).alloc (.cells #[] 173)):=by go_grown
 have B0:=(Va w 235 #[B G 0,K none 0 0,K none 0 0,K none 0 0]).below (w':=(w.alloc (.cells #[B G 0,K none 0 0,K none 0 0,K none 0 0] 235)).alloc (.cells #[] 173)) (by go_grown);have aK:=World.ownsRow_lit (size:=2) (e:=173) (w.alloc (.cells #[B G 0,K none 0 0,K none 0 0,K none 0 0] 235)) #[] 0 (f _) (by decide) rfl;rw[World.size_alloc]at aK;have aP:∀ (ops:Array Oper) (rest:List Oper) (o:Oper) (al:Act) (Q:Exit→Act→World→Prop) (aQ:o.guard=none) (sx x:Operand) (ho:o.op=.call {callee:=.builtin .append,args:=#[sx,x],argTypes:=#[53,53]}) (hs:al.eval sx=K (some ⟨w.heap.size+1,0,none⟩) 0 0) (hx:al.eval x=K a xs.length cap)
   (hh:∀a' c' w',w'.ownsRow (w.heap.size+1) 173 2 (K a' xs.length c') xs.length (z0g xs)→Below (w.heap.size+1) ((w.alloc (.cells #[B G 0,K none 0 0,K none 0 0,K none 0 0] 235)).alloc (.cells #[] 173)) w'→wpList P ops Q rest (al.put o.dst (K a' xs.length c')) w'),wpList P ops Q (o::rest) al ((w.alloc (.cells #[B G 0,K none 0 0,K none 0 0,K none 0 0] 235)).alloc (.cells #[] 173)):=
  fun ops rest o al Q aQ sx x ho hs hx hh=>z0G _ aQ sx x ho (w.heap.size+1) (w.heap.size+1) hs aK a xs cap hx (h.below aH) hN (by omega) (by simp) hh
 go_enter func160,ntmps160
 go_wp2_with (at_builtin;refine aP _ _ _ _ _ rfl _ _ rfl rfl rfl ?_)
 intro ah ai W3 ag aI;have aO:Below w.heap.size w W3:=aH.trans (aI.mono (by omega));replace B0:Blk W3 _ _ _:=(aI.block _ (by omega)).trans B0;have be:w.heap.size<W3.heap.size:=B0.lt;have aV:=ht.below aO;clear aP aK aH aI h hN ht;have ay:Below W3.heap.size W3 (W3.alloc (.cells #[B G 0,K none 0 0,K none 0 0,K ah xs.length ai] 235)):=by go_grown
 have aj:=Va W3 235 #[B G 0,K none 0 0,K none 0 0,K ah xs.length ai];have aC:∀k,(Value.slice ah xs.length ai).ownBlock=some k→k≠W3.heap.size:=fun k hk=>by have:=(ag.lt k hk).2;omega
 replace ag:=z0c ag ay;have af:W3.heap.size+1≤(W3.alloc (.cells #[B G 0,K none 0 0,K none 0 0,K ah xs.length ai] 235)).heap.size:=by simp
 have bf:=aV.shape;obtain⟨bt,bg,rfl⟩:=bf
 go_wp2
 generalize W3.alloc (.cells #[B G 0,K none 0 0,K none 0 0,K ah xs.length ai] 235)=W4 at ay aj ag af;have aB:Below W3.heap.size W3 W4:=ay;obtain⟨T,ba⟩:∃T,T=w.heap.size+1:=⟨_,rfl⟩
 rw[←ba]at ag;generalize aA:W3.heap.size=ab at*;go_loopw[6] (fun j wr=>∃ (k:Nat) (c:List ItemD) (C V:List Int) (ca:Option Addr) (cc:Nat) (va:Option Addr) (vc:Nat) (ia:Option Addr) (ic:Nat),k≤ds.length∧j=B G k∧Blk wr ab 235 #[B G 0,K ca C.length cc,K va V.length vc,K ia c.length ic]∧wr.ownsRow (ab+1) 2 1 (K ca C.length cc) C.length (C.map (Value.int .i64))∧wr.ownsRow (ab+1) 2 1 (K va V.length vc) V.length (V.map (Value.int .i64))∧wr.ownsRow T 173 2 (K ia c.length ic) c.length (z0g c)∧Apart3 (K ca C.length cc) (K va V.length vc) (K ia c.length ic)∧(∀k,(Value.slice ia c.length ic).ownBlock=some k→k≠ab)∧Below ab W3 wr∧ab+1≤wr.heap.size∧Hid (c.length≤8∧Good c∧allI c (ds.drop k)=allI xs ds∧C++z6a c (ds.drop k)=z6a xs ds∧V++z6b c (ds.drop k)=z6b xs ds∧C.length=k∧V.length=k)) (fun j _=>ds.length-(intOf j).toNat)
 case atStart=>exact⟨0,xs,[],[],none,0,none,0,ah,ai,Nat.zero_le _,rfl,aj,World.ownsRow_nil _ _ _ _,World.ownsRow_nil _ _ _ _,ag,⟨Or.inl rfl,Or.inl rfl,Or.inl rfl⟩,aC,aB,af,⟨h8,g,by simp,by simp,by simp,rfl,rfl⟩⟩
 case round=>
  clear aj ag aB af aC ay;obtain⟨k,c,C,V,ca,cc,va,vc,ia,ic,hk,rfl,I,o1,o2,o3,ap,ao,hb,bs,HG⟩:=hrel;have aF:∀g,(Value.slice ca C.length cc).ownBlock=some g→g<wr.heap.size:=fun g hg=>(o1.lt g hg).2
  have aG:∀g,(Value.slice va V.length vc).ownBlock=some g→g<wr.heap.size:=fun g hg=>(o2.lt g hg).2
  have bk:C.length≤60:=by have:=HG.out.2.2.2.2.2.1;omega
  have bl:V.length≤60:=by have:=HG.out.2.2.2.2.2.2;omega
  have bm:=HG.out.1;by_cases aJ:k<ds.length
  ·obtain⟨b,M,aa,tc,rfl,an,t0,t1,t2,t3,hA⟩:=aV.at k aJ;rw[aA]at an;have aE:=HZ.out (ds.getD k z0m) (by simp[List.getD,aJ]);replace t0:wr.cell? ⟨b,M+k*4,none⟩=_:=(hb.cell (p:=⟨b,M+k*4,none⟩) an).trans t0;replace t1:wr.cell? ⟨b,M+k*4+1,none⟩=_:=(hb.cell (p:=⟨b,M+k*4+1,none⟩) an).trans t1;replace t2:wr.cell? ⟨b,M+k*4+2,none⟩=_:=(hb.cell (p:=⟨b,M+k*4+2,none⟩) an).trans t2;replace t3:wr.cell? ⟨b,M+k*4+3,none⟩=_:=(hb.cell (p:=⟨b,M+k*4+3,none⟩) an).trans t3;have aM:ActRow wr aa (ds.getD k z0m).acts:=hA.below (by rw[aA];exact hb);have aN:Box4 wr b (M+k*4) _ _ _ _:=⟨t0,t1,t2,t3⟩
   have aR:ItemRow wr ia c:=Lies.own o3;have O:=fun u (hu:Below wr.heap.size wr u)=>q1B ia ic c b (M+k*4) (ds.getD k z0m).id (ds.getD k z0m).session (ds.getD k z0m).seq aa tc (ds.getD k z0m).acts u (aR.below hu) (z3c o3) (aN.below hu) (aM.below hu) HG.out.1 HG.out.2.1 aE
   have ak:Hid ((nextI c (ds.getD k z0m)).length≤8∧Good (nextI c (ds.getD k z0m))∧allI (nextI c (ds.getD k z0m)) (ds.drop (k+1))=allI xs ds∧(C++[(z0z c (ds.getD k z0m).acts).1])++z6a (nextI c (ds.getD k z0m)) (ds.drop (k+1))=z6a xs ds∧(V++[runV c (ds.getD k z0m).acts])++z6b (nextI c (ds.getD k z0m)) (ds.drop (k+1))=z6b xs ds∧(C++[(z0z c (ds.getD k z0m).acts).1]).length=k+1∧(V++[runV c (ds.getD k z0m).acts]).length=k+1):=by
    obtain⟨g1,g2,g3,g4,g5,g6,g7⟩:=HG.out;rw[q4i aJ]at g3 g4 g5;obtain⟨n1,n2⟩:=z1B g1 g2 aE;exact⟨n1,n2,g3,by simpa[z6a]using g4,by simpa[z6b]using g5,by simp[g6],by simp[g7]⟩
   have ar:Hid ((z0z c (ds.getD k z0m).acts).1=0→runR c (ds.getD k z0m).acts=nextI c (ds.getD k z0m)):=fun h=>by unfold runR nextI;rw[if_pos h,if_pos h]
   have aD:Hid ((z0z c (ds.getD k z0m).acts).1≠0→nextI c (ds.getD k z0m)=c):=fun h=>if_neg h
   generalize (z0z c (ds.getD k z0m).acts).1=D at O ak ar aD;generalize runR c (ds.getD k z0m).acts=RL at O ar;generalize runV c (ds.getD k z0m).acts=J at O ak;generalize nextI c (ds.getD k z0m)=nx at ak ar aD;clear aE hA HG t0 t1 t2 t3;have k3:=I.lat 3 _ rfl
   go_wp2_with fail
   refine z1k [some 18,some 19,some 20,some 21,some 22,some 23,some 7] (fun vs w'=>∃ (ra:Option Addr) (rc db:Nat),vs=[.pointer (some ⟨ab,3,none⟩),K ia c.length ic,K (some ⟨b,M,none⟩) ds.length bg,B G k,.pointer (some ⟨b,M+k*4,none⟩),.agg #[B G D,B G J,K ra RL.length rc],.pointer (some ⟨db,0,none⟩)]∧wr.heap.size≤db∧Blk w' db 282 #[B G D,B G J,K ra RL.length rc]∧w'.ownsRow wr.heap.size 173 2 (K ra RL.length rc) RL.length (z0g RL)∧Below wr.heap.size wr w') ?_ ?_
   ·have hW:Below wr.heap.size wr wr.drew:=(Below.refl _ _).drew;have bq:Nonempty (Lat wr):=⟨⟨wr,Below.refl _ _⟩⟩
    refine z0d (S:=fun w'=>∃u:Lat wr,w'=u.val) (by kernel_rfl) ?_;refine sgr [(0,5)] 3 (by kernel_rfl) ⟨⟨_,hW⟩,rfl⟩ ?_;simp only[pkE];repeat go_big_quiet_step (fail)
    refine wpQuiet_nil ?_;clear k3;generalize wr.drew=yd at hW⊢;refine twa 5 6 2 (by kernel_rfl) ?_ ?_
    ·refine opc 5 (some 23) 196 #[K ia c.length ic,.pointer (some ⟨b,M+k*4,none⟩)] (by kernel_rfl) ?_;refine(O _ hW).mono ?_;rintro e w4 ⟨ra,rc,rfl,oR,ax⟩;have aT:=hW.size;replace oR:=z0r oR aT;replace hW:=hW.trans (ax.mono aT);refine⟨_,rfl,⟨⟨_,hW⟩,rfl⟩,?_⟩;simp only[Act.put,pgE,pjE];refine ona 6 1 rfl (by kernel_rfl) ?_;have X:Below w4.heap.size w4 (w4.alloc (.cells #[B G 0,B G 0,K none 0 0] 282)):=by go_grown
     have Bz:=Va w4 282 #[B G 0,B G 0,K none 0 0];have ae:∀k,(Value.slice ra RL.length rc).ownBlock=some k→k≠w4.heap.size:=fun k hk=>by have:=oR.lt k hk;omega
     have L:wr.heap.size≤w4.heap.size:=hW.size;replace oR:=z0c oR X;replace hW:=hW.trans (X.mono L)
     go_wp2
     refine ThenGo.to ⟨⟨⟨_,hW⟩,rfl⟩,?_⟩;generalize w4.alloc (.cells #[B G 0,B G 0,K none 0 0] 282)=Z at X Bz oR hW⊢;clear X;refine ona 7 0 rfl (by kernel_rfl) ?_;have p0:=Bz.cell 0 _ rfl;have f0:=Bz.frozen 0;have p1:=Bz.cell 1 _ rfl;have f1:=Bz.frozen 1;have p2:=Bz.cell 2 _ rfl;have f2:=Bz.frozen 2
     go_wp2
     refine ThenGo.to ⟨⟨⟨_,(((hW.setCell (p:=⟨w4.heap.size,0,none⟩) L (B G D)).setCell (p:=⟨w4.heap.size,1,none⟩) L (B G J)).setCell (p:=⟨w4.heap.size,2,none⟩) L (K ra RL.length rc))⟩,rfl⟩,?_⟩;refine z0h (by kernel_rfl) ?_;exact⟨rfl,_,⟨ra,rc,w4.heap.size,rfl,L,(((Bz.set 0 (B G D)).set 1 (B G J)).set 2 (K ra RL.length rc)),(z0i (j:=2) (u:=K ra RL.length rc) (z0i (j:=1) (u:=B G J) (z0i (j:=0) (u:=B G D) oR ae) ae) ae),(((hW.setCell (p:=⟨w4.heap.size,0,none⟩) L (B G D)).setCell (p:=⟨w4.heap.size,1,none⟩) L (B G J)).setCell (p:=⟨w4.heap.size,2,none⟩) L (K ra RL.length rc))⟩,by kernel_rfl⟩
    ·refine z1P 6 _ rfl ?_;have X:Below yd.heap.size yd (yd.alloc (.cells #[B G 0,B G 0,K none 0 0] 282)):=by go_grown
     have Bz:=Va yd 282 #[B G 0,B G 0,K none 0 0];have L:wr.heap.size≤yd.heap.size:=hW.size;replace hW:=hW.trans (X.mono L)
     go_wp2
     refine ThenGo.to ⟨⟨⟨_,hW⟩,rfl⟩,?_⟩;generalize yd.alloc (.cells #[B G 0,B G 0,K none 0 0] 282)=Y at X Bz hW⊢;clear X;refine cla 5 (some 23) 196 #[K ia c.length ic,.pointer (some ⟨b,M+k*4,none⟩)] 1 (by kernel_rfl) ?_;refine(O _ hW).mono ?_;rintro e Z ⟨ra,rc,rfl,oR,ax⟩;have ae:∀k,(Value.slice ra RL.length rc).ownBlock=some k→k≠yd.heap.size:=fun k hk=>by have:=(oR.lt k hk).1;have:=Bz.lt;omega
     replace oR:=z0r oR hW.size;replace Bz:=Bz.below ax;replace hW:=hW.trans (ax.mono hW.size);refine⟨_,rfl,⟨⟨_,hW⟩,rfl⟩,?_⟩;simp only[Act.put,pgE,pjE];refine ona 7 0 rfl (by kernel_rfl) ?_;have p0:=Bz.cell 0 _ rfl;have f0:=Bz.frozen 0;have p1:=Bz.cell 1 _ rfl;have f1:=Bz.frozen 1;have p2:=Bz.cell 2 _ rfl;have f2:=Bz.frozen 2
     go_wp2
     refine ThenGo.to ⟨⟨⟨_,(((hW.setCell (p:=⟨yd.heap.size,0,none⟩) L (B G D)).setCell (p:=⟨yd.heap.size,1,none⟩) L (B G J)).setCell (p:=⟨yd.heap.size,2,none⟩) L (K ra RL.length rc))⟩,rfl⟩,?_⟩;refine z0h (by kernel_rfl) ?_;exact⟨rfl,_,⟨ra,rc,yd.heap.size,rfl,L,(((Bz.set 0 (B G D)).set 1 (B G J)).set 2 (K ra RL.length rc)),(z0i (j:=2) (u:=K ra RL.length rc) (z0i (j:=1) (u:=B G J) (z0i (j:=0) (u:=B G D) oR ae) ae) ae),(((hW.setCell (p:=⟨yd.heap.size,0,none⟩) L (B G D)).setCell (p:=⟨yd.heap.size,1,none⟩) L (B G J)).setCell (p:=⟨yd.heap.size,2,none⟩) L (K ra RL.length rc))⟩,by kernel_rfl⟩
   rintro vs w5 ⟨ra,rc,db,rfl,bo,Bd,oR,ad⟩;simp only[z1Q,Act.put,pjE];have am:∀g,(Value.slice ra RL.length rc).ownBlock=some g→wr.heap.size≤g∧g<w5.heap.size:=fun g hg=>oR.lt g hg
   replace o1:=z0c o1 ad;replace o2:=z0c o2 ad;replace o3:=z0c o3 ad;replace I:=I.below ad;replace hb:=hb.trans (ad.mono (by omega));have br:=ad.size;clear O aM aR aN ad k3;generalize wr.heap.size=mb at*;have bi:w5.heap.size=w5.heap.size:=by first|rfl|simp
   have a1:=I.cell 1 _ rfl;have b0:=Bd.cell 0 _ rfl;have N:Below w5.heap.size w5 (w5.alloc (.cells #[B G D] 2)):=by go_grown
   have q1:=z0c o1 N;have l2:=fun g hg=>(o2.lt g hg).2
   have l3:=fun g hg=>(o3.lt g hg).2
   go_wp2_with (at_builtin;refine wpList_append_own_at _ rfl _ _ 75 rfl (ab+1) 2 i0 (B G 0) 1 8 Tryz.underlying75 hi aW aX aY rfl (by decide) _ C.length (C.map (Value.int .i64)) rfl q1 ⟨w5.heap.size,0,none⟩ 1 1 [B G D] rfl rfl ?c1 ?c2 ?c3 ?c4 ?c5 ?_)
   all_goals try(case c1=>intro j u hj;match j,hj with|0,hj=>simp at hj;subst hj;simp[Addr.add])
   all_goals try(case c2=>first|rfl|(intro u hu;simp at hu;subst hu;rfl))
   all_goals try(case c3=>unfold maxLen;omega)
   all_goals try(case c4=>omega)
   all_goals try(case c5=>first|omega|(simp;omega))
   intro v' w1 W E _ U;obtain⟨z,A,rfl⟩:=z0f W;clear a1 b0;have av:Below (ab+1) w5 w1:=((Below.refl _ _).alloc (by omega) _).grown E (by simp;omega) (fun k hk=>(o1.lt k hk).1);have az:w5.heap.size≤w1.heap.size:=av.size;have a7:∀g,(Value.slice z (C.length+1) A).ownBlock=some g→g<mb∨w5.heap.size≤g:=fun g hg=>by
    rcases U with e|e
    ·exact Or.inl (aF g (by rw[←e];exact hg))
    ·rw[hg]at e;simp at e;right;omega
   have au:Apart3 (K z (C.length+1) A) (K va V.length vc) (K ia c.length ic):=ap.grow1 (w:=w5.alloc (.cells #[B G D] 2)) (by simpa using U) (fun g hg=>by have:=l2 g hg;simp;omega) (fun g hg=>by have:=l3 g hg;simp;omega);replace o2:=(z0c o2 N).kept E (z7r ap.a12);replace o3:=(z0c o3 N).kept E (z7r ap.a13);replace oR:=(z0c oR N).kept E (q0A (fun g h1 h2=>by have:=am g h1;have:=aF g h2;omega));replace Bd:=(Bd.below N).grown E (by intro e;have:=aF db e.symm;omega);replace I:Blk w1 ab 235 #[B G 0,K ca C.length cc,K va V.length vc,K ia c.length ic]:=(av.block _ (by omega)).trans I;replace o1:w1.ownsRow (ab+1) 2 1 (K z (C.length+1) A) (C.length+1) ((C++[D]).map (Value.int .i64)):=by simpa using W
   replace hb:=hb.trans (av.mono (by omega));clear W E U q1 l2 l3 N av ap;have d1:=I.cell 1 _ rfl;have d2:=I.frozen 1;replace o1:=ownsRow_setCell_below (a:=⟨ab,1,none⟩) o1 (by dsimp only;omega) (K z (C.length+1) A);replace o2:=ownsRow_setCell_below (a:=⟨ab,1,none⟩) o2 (by dsimp only;omega) (K z (C.length+1) A);replace o3:=z0i (j:=1) (u:=K z (C.length+1) A) o3 ao;replace oR:=ownsRow_setCell_below (a:=⟨ab,1,none⟩) oR (by dsimp only;omega) (K z (C.length+1) A);replace I:Blk (w1.setCell ⟨ab,1,none⟩ (K z (C.length+1) A)) ab 235 #[B G 0,K z (C.length+1) A,K va V.length vc,K ia c.length ic]:=by simpa using I.set 1 (K z (C.length+1) A)
   replace Bd:Blk (w1.setCell ⟨ab,1,none⟩ (K z (C.length+1) A)) (db) 282 #[B G D,B G J,K ra RL.length rc]:=Bd.otherG (by omega);replace hb:=hb.setCell (p:=⟨ab,1,none⟩) (f _) (K z (C.length+1) A);replace az:w5.heap.size≤(w1.setCell ⟨ab,1,none⟩ (K z (C.length+1) A)).heap.size:=by simpa[World.setCell]using az
   have a2:=I.cell 2 _ rfl;have b1:=Bd.cell 1 _ rfl;have N:Below (w1.setCell ⟨ab,1,none⟩ (K z (C.length+1) A)).heap.size (w1.setCell ⟨ab,1,none⟩ (K z (C.length+1) A)) ((w1.setCell ⟨ab,1,none⟩ (K z (C.length+1) A)).alloc (.cells #[B G J] 2)):=by go_grown
   have q2:=z0c o2 N;have l1:=fun g hg=>(o1.lt g hg).2
   have l3:=fun g hg=>(o3.lt g hg).2
   have aU:(w1.setCell ⟨ab,1,none⟩ (K z (C.length+1) A)).heap.size=w1.heap.size:=by simp[World.setCell]
   have aq:∀j u,[Value.int .i64 J][j]?=some u→((w1.setCell ⟨ab,1,none⟩ (K z (C.length+1) A)).alloc (.cells #[B G J] 2)).cell? ((⟨w1.heap.size,0,none⟩:Addr).add j)=some u:=by
    intro j u hj
    match j,hj with
    |0,hj=>
     simp at hj;subst hj;rw[←aU,Addr.add_lit];exact(Va (w1.setCell ⟨ab,1,none⟩ (K z (C.length+1) A)) 2 #[B G J]).cell 0 _ rfl
   go_wp2_with (at_builtin;refine wpList_append_own_at _ rfl _ _ 75 rfl (ab+1) 2 i0 (B G 0) 1 8 Tryz.underlying75 hi aW aX aY rfl (by decide) _ V.length (V.map (Value.int .i64)) rfl q2 ⟨w1.heap.size,0,none⟩ 1 1 [B G J] rfl rfl aq ?c2 ?c3 ?c4 ?c5 ?_)
   all_goals try(case c1=>intro j u hj;match j,hj with|0,hj=>simp at hj;subst hj;simp[Addr.add])
   all_goals try(case c2=>first|rfl|(intro u hu;simp at hu;subst hu;rfl))
   all_goals try(case c3=>unfold maxLen;omega)
   all_goals try(case c4=>omega)
   all_goals try(case c5=>first|omega|(simp;omega))
   intro v' w2 W E _ U;obtain⟨d,y,rfl⟩:=z0f W;clear a2 b1 d1 d2;have aw:Below (ab+1) (w1.setCell ⟨ab,1,none⟩ (K z (C.length+1) A)) w2:=((Below.refl _ _).alloc (by omega) _).grown E (by simp;omega) (fun k hk=>(o2.lt k hk).1);have aS:w5.heap.size≤w2.heap.size:=Nat.le_trans az aw.size;have a8:∀g,(Value.slice d (V.length+1) y).ownBlock=some g→g<mb∨w5.heap.size≤g:=fun g hg=>by
    rcases U with e|e
    ·exact Or.inl (aG g (by rw[←e];exact hg))
    ·rw[hg]at e;simp at e;right;omega
   have aL:Apart3 (K z (C.length+1) A) (K d (V.length+1) y) (K ia c.length ic):=au.grow2 (w:=(w1.setCell ⟨ab,1,none⟩ (K z (C.length+1) A)).alloc (.cells #[B G J] 2)) (by simpa using U) (fun g hg=>by have:=l1 g hg;simp;omega) (fun g hg=>by have:=l3 g hg;simp;omega);replace o1:=(z0c o1 N).kept E au.a12;replace o3:=(z0c o3 N).kept E (z7r au.a23);replace oR:=(z0c oR N).kept E (q0A (fun g h1 h2=>by have:=am g h1;have:=aG g h2;omega));replace Bd:=(Bd.below N).grown E (by intro e;have:=aG db e.symm;omega);replace I:Blk w2 ab 235 #[B G 0,K z (C.length+1) A,K va V.length vc,K ia c.length ic]:=(aw.block _ (by omega)).trans I;replace o2:w2.ownsRow (ab+1) 2 1 (K d (V.length+1) y) (V.length+1) ((V++[J]).map (Value.int .i64)):=by simpa using W
   replace hb:=hb.trans (aw.mono (by omega));clear W E U q2 l1 l3 N aw au aU az aq;have d1:=I.cell 2 _ rfl;have d2:=I.frozen 2;replace o1:=ownsRow_setCell_below (a:=⟨ab,2,none⟩) o1 (by dsimp only;omega) (K d (V.length+1) y);replace o2:=ownsRow_setCell_below (a:=⟨ab,2,none⟩) o2 (by dsimp only;omega) (K d (V.length+1) y);replace o3:=z0i (j:=2) (u:=K d (V.length+1) y) o3 ao;replace oR:=ownsRow_setCell_below (a:=⟨ab,2,none⟩) oR (by dsimp only;omega) (K d (V.length+1) y);replace I:Blk (w2.setCell ⟨ab,2,none⟩ (K d (V.length+1) y)) ab 235 #[B G 0,K z (C.length+1) A,K d (V.length+1) y,K ia c.length ic]:=by simpa using I.set 2 (K d (V.length+1) y)
   replace Bd:Blk (w2.setCell ⟨ab,2,none⟩ (K d (V.length+1) y)) (db) 282 #[B G D,B G J,K ra RL.length rc]:=Bd.otherG (by omega);replace hb:=hb.setCell (p:=⟨ab,2,none⟩) (f _) (K d (V.length+1) y);replace aS:w5.heap.size≤(w2.setCell ⟨ab,2,none⟩ (K d (V.length+1) y)).heap.size:=by simpa[World.setCell]using aS
   have b0:=Bd.cell 0 _ rfl;have b2:=Bd.cell 2 _ rfl;have a3:=I.cell 3 _ rfl;have a4:=I.frozen 3;by_cases hc:D=0
   ·obtain rfl:RL=nx:=ar.out hc;have a6:Apart3 (K z (C.length+1) A) (K d (V.length+1) y) (K ra RL.length rc):=⟨aL.a12,q0A (fun g h1 h2=>by have:=am g h2;have:=a7 g h1;omega),q0A (fun g h1 h2=>by have:=am g h2;have:=a8 g h1;omega)⟩
    have bh:((w2.setCell ⟨ab,2,none⟩ (K d (V.length+1) y)).setCell ⟨ab,3,none⟩ (K ra RL.length rc)).heap.size=(w2.setCell ⟨ab,2,none⟩ (K d (V.length+1) y)).heap.size:=by simp[World.setCell]
    have R:Hid (Blk ((w2.setCell ⟨ab,2,none⟩ (K d (V.length+1) y)).setCell ⟨ab,3,none⟩ (K ra RL.length rc)) ab 235 #[B G 0,K z (C.length+1) A,K d (V.length+1) y,K ra RL.length rc]∧((w2.setCell ⟨ab,2,none⟩ (K d (V.length+1) y)).setCell ⟨ab,3,none⟩ (K ra RL.length rc)).ownsRow (ab+1) 2 1 (K z (C.length+1) A) (C.length+1) ((C++[D]).map (Value.int .i64))∧((w2.setCell ⟨ab,2,none⟩ (K d (V.length+1) y)).setCell ⟨ab,3,none⟩ (K ra RL.length rc)).ownsRow (ab+1) 2 1 (K d (V.length+1) y) (V.length+1) ((V++[J]).map (Value.int .i64))∧((w2.setCell ⟨ab,2,none⟩ (K d (V.length+1) y)).setCell ⟨ab,3,none⟩ (K ra RL.length rc)).ownsRow mb 173 2 (K ra RL.length rc) RL.length (z0g RL)∧Below ab W3 ((w2.setCell ⟨ab,2,none⟩ (K d (V.length+1) y)).setCell ⟨ab,3,none⟩ (K ra RL.length rc))∧ab+1≤((w2.setCell ⟨ab,2,none⟩ (K d (V.length+1) y)).setCell ⟨ab,3,none⟩ (K ra RL.length rc)).heap.size):=
     ⟨by simpa using I.set 3 (K ra RL.length rc),ownsRow_setCell_below o1 (by dsimp only;omega) _,ownsRow_setCell_below o2 (by dsimp only;omega) _,ownsRow_setCell_below oR (by dsimp only;omega) _,hb.setCell (p:=⟨ab,3,none⟩) (f _) _,by omega⟩
    clear o1 o2 o3 oR I Bd hb;subst hc
    go_wp2
    go_roundw
    case rel=>
     refine⟨k+1,RL,C++[0],V++[J],z,A,d,y,ra,rc,by omega,by go_num,?_,?_,?_,?_,?_,?_,R.out.2.2.2.2.1,R.out.2.2.2.2.2,ak⟩
     ·simpa using R.out.1
     ·simpa using R.out.2.1
     ·simpa using R.out.2.2.1
     ·exact z0r R.out.2.2.2.1 (by omega)
     ·simpa using a6
     ·intro k hk;have:=am k hk;omega
    case measure=>simp[intOf];omega
   ·have bn:(D==0)=false:=by simp[hc]
    have bd:nx=c:=aD.out hc;have R:Hid (Blk (w2.setCell ⟨ab,2,none⟩ (K d (V.length+1) y)) ab 235 #[B G 0,K z (C.length+1) A,K d (V.length+1) y,K ia c.length ic]∧(w2.setCell ⟨ab,2,none⟩ (K d (V.length+1) y)).ownsRow (ab+1) 2 1 (K z (C.length+1) A) (C.length+1) ((C++[D]).map (Value.int .i64))∧(w2.setCell ⟨ab,2,none⟩ (K d (V.length+1) y)).ownsRow (ab+1) 2 1 (K d (V.length+1) y) (V.length+1) ((V++[J]).map (Value.int .i64))∧(w2.setCell ⟨ab,2,none⟩ (K d (V.length+1) y)).ownsRow T 173 2 (K ia c.length ic) c.length (z0g c)∧Apart3 (K z (C.length+1) A) (K d (V.length+1) y) (K ia c.length ic)∧Below ab W3 (w2.setCell ⟨ab,2,none⟩ (K d (V.length+1) y))∧ab+1≤(w2.setCell ⟨ab,2,none⟩ (K d (V.length+1) y)).heap.size):=⟨I,o1,o2,o3,aL,hb,by omega⟩
    clear o1 o2 o3 oR I Bd hb;subst bd
    go_wp2
    go_roundw
    case rel=>
     refine⟨k+1,nx,C++[D],V++[J],z,A,d,y,ia,ic,by omega,by go_num,?_,?_,?_,R.out.2.2.2.1,?_,ao,R.out.2.2.2.2.2.1,R.out.2.2.2.2.2.2,ak⟩
     ·simpa using R.out.1
     ·simpa using R.out.2.1
     ·simpa using R.out.2.2.1
     ·simpa using R.out.2.2.2.2.1
    case measure=>simp[intOf];omega
  ·have bc:k=ds.length:=by omega
   subst bc;have HE:Hid (eaC xs ds=0∧q5B xs ds=C∧q5C xs ds=V∧eaI xs ds=c):=by
    obtain⟨_,_,g3,g4,g5,_,_⟩:=HG.out;rw[List.drop_length]at g3 g4 g5;obtain⟨e1,e2,e3,e4⟩:=aZ.out;exact⟨e1,by rw[e2,←g4];simp[z6a],by rw[e3,←g5];simp[z6b],by rw[e4,←g3];rfl⟩
   replace B0:Blk wr _ _ _:=(hb.block _ be).trans B0;obtain⟨p0,p1,p2,p3⟩:=B0.cel4;obtain⟨f0,f1,f2,f3⟩:=B0.frz4;obtain⟨q0,q1,q2,q3⟩:=I.cel4;have bp:=B0.lt;have bb:Below w.heap.size w wr:=aO.trans (hb.mono (by omega));clear B0 I HG
   go_wp2
   refine bodyPost_ret (v:=.agg #[B G 0,K ca C.length cc,K va V.length vc,K ia c.length ic]) (by simp[results,results160,go_sem,p0,p1,p2,p3]) rfl ?_;rw[HE.out.1,HE.out.2.1,HE.out.2.2.1,HE.out.2.2.2];refine⟨_,_,_,_,_,_,rfl,⟨OwnS.of ?_,OwnS.of ?_,OwnS.of ?_,ap⟩,?_⟩
   ·refine z0r (base:=ab+1) ?_ (by omega);repeat' (refine ownsRow_setCell_below ?_ (by dsimp only;omega) _)
    exact o1
   ·refine z0r (base:=ab+1) ?_ (by omega);repeat' (refine ownsRow_setCell_below ?_ (by dsimp only;omega) _)
    exact o2
   ·refine z0r (base:=T) ?_ (by omega);repeat' (refine ownsRow_setCell_below ?_ (by dsimp only;omega) _)
    exact o3
   ·repeat' (refine Below.setCell ?_ (by dsimp only;omega) _)
    exact bb
end
theorem q3p:∀ {ds:List TxnD},(∀t∈ds,t.F=0)→allF ds=0
 |[],_=>rfl
 |d::r,h=>by
  rw[allF,if_pos (h d (by simp))];exact q3p (fun t ht=>h t (List.mem_cons_of_mem _ ht))
theorem q6w{ds:List TxnD}(h:∀t∈ds,t.F=0)(hl:ds.length≤60):z85 ds=0:=by
 unfold z85;rw[if_neg (by omega)];exact q3p h
theorem q5H(c:Int)(a1 a2 a3:Option Addr)(n1 k1 n2 k2 n3 k3:Nat)(w:World):(Instr.field 235 (.agg #[B G c,K a1 n1 k1,K a2 n2 k2,K a3 n3 k3]) 3).run P w=.ok (K a3 n3 k3) w:=by kernel_rfl
theorem z6X(v1 v2:Value)(ps qs:List TxnQ)(w:World)(h1:txnK.At w v1 ps)(h2:txnK.At w v2 qs)(M:∀p∈ps,(m p).F=0)(C:∀p∈qs,(m p).F=0)(ag:ps.length≤40)(ad:qs.length≤40):
  Calls P 117 #[v1,v2] w fun e w'=>∃p:RepQ,e=.returned (.agg #[p.vd,p.vb,p.vt,p.vu,p.vn])∧p.e=mkR (ps.map m) (qs.map m)∧repK.own w' p∧(repK.foot p).Nodup∧(∀k∈repK.foot p,w.heap.size≤k)∧Below w.heap.size w w':=by
 have D:∀t∈ps.map m,t.F=0:=fun t ht=>by obtain⟨p,hp,rfl⟩:=List.mem_map.1 ht;exact M p hp
 have O:∀t∈qs.map m,t.F=0:=fun t ht=>by obtain⟨p,hp,rfl⟩:=List.mem_map.1 ht;exact C p hp
 have N:∀ (l:List TxnQ),(∀p∈l,(m p).F=0)→∀p∈l,0<p.acts.length:=fun l hl p hp=>by
  have:=(z04 (show txnF p.i p.s p.q p.acts=0 from hl p hp)).1;omega
 have m1:=q3k D;have m2:=q3k O;have gD:=z1J (xs:=[]) (by simp) z4b D;have A:=q6w D (by rw[List.length_map];omega);obtain⟨z1,z2,z3,z4⟩:=q6v (xs:=[]) z6c A;obtain⟨a,cap,rfl⟩:=h1.shape;obtain⟨a',J,rfl⟩:=h2.shape;have c:Below w.heap.size w (w.alloc (.cells #[K none 0 0,K none 0 0,K none 0 0,K none 0 0,K none 0 0] 56)):=by go_grown
 have Bv:=Va w 56 #[K none 0 0,K none 0 0,K none 0 0,K none 0 0,K none 0 0];have ah:w.heap.size+1≤(w.alloc (.cells #[K none 0 0,K none 0 0,K none 0 0,K none 0 0,K none 0 0] 56)).heap.size:=by simp only[World.size_alloc];omega
 have T:=fun w h=>z2o (K a ps.length cap) ps w h (N ps M) (by omega)
 have U:=fun w h=>z2o (K a' qs.length J) qs w h (N qs C) (by omega)
 have I:=fun w h=>q3o none 0 [] (K a ps.length cap) (ps.map m) w (Or.inl rfl) (Or.inr ⟨rfl,rfl,rfl⟩) (z0F h) z6c A
 rw[z1,z2,z3,z4]at I;have hR:=fun(w':World) (hb:Below w.heap.size w w')=>And.intro (h1.below hb) (h2.below hb)
 clear z1 z2 z3 z4 A m1 m2 N h1 h2 O;simp only[List.length_nil]at I;go_enter func117,ntmps117
 go_wp2_with fail
 have V:=hR _ c;generalize w.alloc (.cells #[K none 0 0,K none 0 0,K none 0 0,K none 0 0,K none 0 0] 56)=W0 at*;generalize hH:w.heap.size=H at*;refine(T W0 V.1).mono ?_;rintro e w1 ⟨v',q1,rfl,e1,o1,n1,g1,hb⟩;obtain⟨a1,k1,rfl⟩:=o1.shape;have i1:=o1.lt;have s1:=hb.size;replace Bv:=Bv.below hb;replace c:=c.trans (hb.mono (by omega));have W:=hR _ c;clear hb T
 go_wp2_with fail
 refine(U w1 W.2).mono ?_;rintro e w2 ⟨v',q3,rfl,e3,o3,n3,g3,hb⟩;obtain⟨a2,k2,rfl⟩:=o3.shape;have i3:=o3.lt;have s2:=hb.size;replace Bv:=Bv.below hb;replace o1:=o1.below hb;replace c:=c.trans (hb.mono (by omega));have X:=hR _ c;clear hb U
 go_wp2_with fail
 refine(I w2 X.1).mono ?_;rintro e w3 ⟨b1,c1,b2,c2,b3,c3,rfl,hA,hb⟩;obtain⟨oB,gB⟩:=z2R hA.o3;have iB:=z0D oB;have s3:=hb.size;replace Bv:=Bv.below hb;replace o1:=o1.below hb;replace o3:=o3.below hb;replace c:=c.trans (hb.mono (by omega));have ae:=hR _ c;clear hb I hA;have ab:=q5H 0 b1 b2 b3 (z6a [] (ps.map m)).length c1 (z6b [] (ps.map m)).length c2 (allI [] (ps.map m)).length c3 w3;have d:itemK.Own w3 (.slice b3 (allI [] (ps.map m)).length c3) (allI [] (ps.map m)):=⟨oB,fun _ _=>trivial⟩
 have z:Below w3.heap.size w3 (w3.alloc (.cells #[K a1 q1.length k1,.slice b3 (allI [] (ps.map m)).length c3,K a2 q3.length k2,K none 0 0,K none 0 0] 56)):=by go_grown
 have Bg:=Va w3 56 #[K a1 q1.length k1,.slice b3 (allI [] (ps.map m)).length c3,K a2 q3.length k2,K none 0 0,K none 0 0];replace Bv:=Bv.below z;replace o1:=o1.below z;replace o3:=o3.below z;replace d:=d.below z;replace c:=c.trans (z.mono (by omega));have Y:=hR _ c;have s4:=z.size;have af:=Bg.lt;have Z:=q1D b3 c3 (allI [] (ps.map m)) (K a' qs.length J) qs _ d.at (d.niceV _ _ _ rfl) Y.2 C ad gD.1 gD.2;have x1:=Bg.cell 1 _ rfl
 go_wp2_with fail
 clear ab x1 z oB;generalize aa:w3.alloc (.cells #[K a1 q1.length k1,.slice b3 (allI [] (ps.map m)).length c3,K a2 q3.length k2,K none 0 0,K none 0 0] 56)=w4 at*;clear aa;generalize hg:w3.heap.size=g at*;refine Z.mono ?_;rintro e w5 ⟨ua,uc,na,nc,us,ys,rfl,eU,eY,oU,oY,nU,gU,gY,hb⟩;clear Z;have s5:=hb.size;have iU:=oU.lt;have iY:=z0D oY.1;replace Bv:=Bv.below hb;replace Bg:=Bg.below hb;replace o1:=o1.below hb;replace o3:=o3.below hb;replace d:=d.below hb;replace c:=c.trans (hb.mono (by omega));clear hb V W X ae Y hR;have y3:=Bg.cell 3 _ rfl;have y4:=Bg.cell 4 _ rfl;have f3:=Bg.frozen 3;have f4:=Bg.frozen 4;have B2:Blk ((w5.setCell ⟨g,3,none⟩ (K ua us.length uc)).setCell ⟨g,4,none⟩ (K na ys.length nc)) g 56 #[K a1 q1.length k1,.slice b3 (allI [] (ps.map m)).length c3,K a2 q3.length k2,K ua us.length uc,K na ys.length nc]:=by
  have:=(Bg.set 3 (K ua us.length uc)).set 4 (K na ys.length nc);simpa using this
 have L:=(Bv.other (b':=g) (by omega) 3 (K ua us.length uc)).other (b':=g) (by omega) 4 (K na ys.length nc);have E:Out [g] w5 ((w5.setCell ⟨g,3,none⟩ (K ua us.length uc)).setCell ⟨g,4,none⟩ (K na ys.length nc)):=(Vb w5 g 3 _).trans (Vb _ g 4 _);have RF:Hid (∀u0 u1 u2 u3 u4:Value,repK.own (((((((w5.setCell ⟨g,3,none⟩ (K ua us.length uc)).setCell ⟨g,4,none⟩ (K na ys.length nc)).setCell ⟨H,0,none⟩ u0).setCell ⟨H,1,none⟩ u1).setCell ⟨H,2,none⟩ u2).setCell ⟨H,3,none⟩ u3).setCell ⟨H,4,none⟩ u4) (⟨K a1 q1.length k1,q1,.slice b3 (allI [] (ps.map m)).length c3,allI [] (ps.map m),K a2 q3.length k2,q3,K ua us.length uc,us,K na ys.length nc,ys⟩:RepQ)∧Below H w (((((((w5.setCell ⟨g,3,none⟩ (K ua us.length uc)).setCell ⟨g,4,none⟩ (K na ys.length nc)).setCell ⟨H,0,none⟩ u0).setCell ⟨H,1,none⟩ u1).setCell ⟨H,2,none⟩ u2).setCell ⟨H,3,none⟩ u3).setCell ⟨H,4,none⟩ u4)):=fun u0 u1 u2 u3 u4=>by
  have hS:Out [H] ((w5.setCell ⟨g,3,none⟩ (K ua us.length uc)).setCell ⟨g,4,none⟩ (K na ys.length nc)) (((((((w5.setCell ⟨g,3,none⟩ (K ua us.length uc)).setCell ⟨g,4,none⟩ (K na ys.length nc)).setCell ⟨H,0,none⟩ u0).setCell ⟨H,1,none⟩ u1).setCell ⟨H,2,none⟩ u2).setCell ⟨H,3,none⟩ u3).setCell ⟨H,4,none⟩ u4):=((((Vb _ H 0 u0).trans (Vb _ H 1 u1)).trans (Vb _ H 2 u2)).trans (Vb _ H 3 u3)).trans (Vb _ H 4 u4);have hA:Out [g,H] w5 (((((((w5.setCell ⟨g,3,none⟩ (K ua us.length uc)).setCell ⟨g,4,none⟩ (K na ys.length nc)).setCell ⟨H,0,none⟩ u0).setCell ⟨H,1,none⟩ u1).setCell ⟨H,2,none⟩ u2).setCell ⟨H,3,none⟩ u3).setCell ⟨H,4,none⟩ u4):=(E.mono (fun x hx=>by simp only[List.mem_singleton]at hx;simp[hx])).trans (hS.mono (fun x hx=>by simp only[List.mem_singleton]at hx;simp[hx]));have nn:∀x,x≠g→x≠H→x∉[g,H]:=fun x h1 h2 hm=>by
   simp only[List.mem_cons,List.not_mem_nil,or_false]at hm;omega
  refine⟨⟨o1.out hA (fun x hx=>nn x (by have:=i1 x hx;omega) (by have:=g1 x hx;omega)),d.out hA (fun x hx=>by rw[z0q]at hx;exact nn x (by have:=iB x hx;omega) (by have:=gB x hx;omega)),o3.out hA (fun x hx=>nn x (by have:=i3 x hx;omega) (by have:=g3 x hx;omega)),oU.out hA (fun x hx=>nn x (by have:=(gU x hx).1;omega) (by have:=(gU x hx).1;omega)),oY.out hA (fun x hx=>by rw[z0q]at hx;exact nn x (by have:=gY x hx;omega) (by have:=gY x hx;omega))⟩,?_⟩;refine Out.keep (Out.keep c E (by omega) (fun x hx=>by simp only[List.mem_singleton]at hx;omega)) hS (by have:=E.size;omega) (fun x hx=>by simp only[List.mem_singleton]at hx;omega)
 have R1:Hid ((repK.foot (⟨K a1 q1.length k1,q1,.slice b3 (allI [] (ps.map m)).length c3,allI [] (ps.map m),K a2 q3.length k2,q3,K ua us.length uc,us,K na ys.length nc,ys⟩:RepQ)).Nodup∧∀x∈repK.foot (⟨K a1 q1.length k1,q1,.slice b3 (allI [] (ps.map m)).length c3,allI [] (ps.map m),K a2 q3.length k2,q3,K ua us.length uc,us,K na ys.length nc,ys⟩:RepQ),H≤x):=by
  have E1:itemK.fp (.slice b3 (allI [] (ps.map m)).length c3) (allI [] (ps.map m))=blk (.slice b3 (allI [] (ps.map m)).length c3):=z0q _ _;have E2:itemK.fp (K na ys.length nc) ys=blk (K na ys.length nc):=z0q _ _;show List.Nodup (txnK.fp (K a1 q1.length k1) q1++(itemK.fp (.slice b3 (allI [] (ps.map m)).length c3) (allI [] (ps.map m))++(txnK.fp (K a2 q3.length k2) q3++(ussK.fp (K ua us.length uc) us++itemK.fp (K na ys.length nc) ys))))∧∀x∈txnK.fp (K a1 q1.length k1) q1++(itemK.fp (.slice b3 (allI [] (ps.map m)).length c3) (allI [] (ps.map m))++(txnK.fp (K a2 q3.length k2) q3++(ussK.fp (K ua us.length uc) us++itemK.fp (K na ys.length nc) ys))),H≤x;rw[E1,E2];have bA:∀x∈txnK.fp (K a1 q1.length k1) q1,W0.heap.size≤x∧x<w1.heap.size:=fun x hx=>⟨g1 x hx,i1 x hx⟩
  have bC:∀x∈txnK.fp (K a2 q3.length k2) q3,w1.heap.size≤x∧x<w2.heap.size:=fun x hx=>⟨g3 x hx,i3 x hx⟩
  have bB:∀x∈blk (.slice b3 (allI [] (ps.map m)).length c3),w2.heap.size≤x∧x<g:=fun x hx=>⟨gB x hx,by have:=iB x hx;omega⟩
  have bU:∀x∈ussK.fp (K ua us.length uc) us,w4.heap.size≤x:=fun x hx=>(gU x hx).1
  refine⟨List.nodup_append.2 ⟨n1,List.nodup_append.2 ⟨z0t _,List.nodup_append.2 ⟨n3,List.nodup_append.2 ⟨nU,z0t _,fun x hx y hy e=>(gU x hx).2 (e▸hy)⟩,?_⟩,?_⟩,?_⟩,?_⟩
  ·intro x hx y hy e;have:=bC x hx;rcases List.mem_append.1 hy with hy|hy
   ·have:=bU y hy;omega
   ·have:=gY y hy;omega
  ·intro x hx y hy e;have:=bB x hx;rcases List.mem_append.1 hy with hy|hy
   ·have:=bC y hy;omega
   rcases List.mem_append.1 hy with hy|hy
   ·have:=bU y hy;omega
   ·have:=gY y hy;omega
  ·intro x hx y hy e;have:=bA x hx;rcases List.mem_append.1 hy with hy|hy
   ·have:=bB y hy;omega
   rcases List.mem_append.1 hy with hy|hy
   ·have:=bC y hy;omega
   rcases List.mem_append.1 hy with hy|hy
   ·have:=bU y hy;omega
   ·have:=gY y hy;omega
  ·intro x hx;rcases List.mem_append.1 hx with hx|hx
   ·have:=bA x hx;omega
   rcases List.mem_append.1 hx with hx|hx
   ·have:=bB x hx;omega
   rcases List.mem_append.1 hx with hx|hx
   ·have:=bC x hx;omega
   rcases List.mem_append.1 hx with hx|hx
   ·have:=bU x hx;omega
   ·have:=gY x hx;omega
 have R2:Hid (RepQ.e (⟨K a1 q1.length k1,q1,.slice b3 (allI [] (ps.map m)).length c3,allI [] (ps.map m),K a2 q3.length k2,q3,K ua us.length uc,us,K na ys.length nc,ys⟩:RepQ)=mkR (ps.map m) (qs.map m)):=show _=_ by
  simp only[RepQ.e,mkR,e1,e3,eU,eY]
 clear e1 e3 eU eY oU oY nU gU gY iU iY o1 o3 d n1 n3 g1 g3 i1 i3 gB iB E gD D M C;obtain⟨r0,r1,r2,r3,r4⟩:=B2.cel5;obtain⟨z0,z1,z2,z3,z4⟩:=L.cel5;obtain⟨t0,t1,t2,t3,t4⟩:=L.frz5;clear Bg Bv B2 L c
 go_wp2
 exact bodyPost_ret (v:=.agg #[K a1 q1.length k1,.slice b3 (allI [] (ps.map m)).length c3,K a2 q3.length k2,K ua us.length uc,K na ys.length nc]) (by simp[results,results117,go_sem,z0,z1,z2,z3,z4]) rfl ⟨(⟨K a1 q1.length k1,q1,.slice b3 (allI [] (ps.map m)).length c3,allI [] (ps.map m),K a2 q3.length k2,q3,K ua us.length uc,us,K na ys.length nc,ys⟩:RepQ),rfl,R2.out,(RF.out _ _ _ _ _).1,R1.out.1,(by rw[hH];exact R1.out.2),(by rw[hH];exact(RF.out _ _ _ _ _).2)⟩
theorem z8Y(i s q:Int)(b d cap:Nat)(zs:List ActD)(w:World)(h:ActRow w (some ⟨b,d,none⟩) zs)(hl:zs.length≤1048576):
  Calls P 120 #[.agg #[B G i,B G s,B G q,K (some ⟨b,d,none⟩) zs.length cap]] w fun e w'=>∃a c,e=.returned (.agg #[B G i,B G s,B G q,K a zs.length c])∧
   w'.ownsRow w.heap.size 210 3 (K a zs.length c) zs.length (z0p zs)∧Below w.heap.size w w':=by
 obtain⟨i0,hi,D,E,I⟩:=info_parts z5k;have hs:=z2U (Lies.below h (w':=((w.alloc (.cells #[B G i,B G s,B G q,K (some ⟨b,d,none⟩) zs.length cap] 158)).alloc (.cells #[B G 0,B G 0,B G 0,K none 0 0] 158)).alloc (.cells #[] 210)) (by go_grown));have C:=z0s zs;have ho:=World.ownsRow_lit (e:=210) (size:=3) ((w.alloc (.cells #[B G i,B G s,B G q,K (some ⟨b,d,none⟩) zs.length cap] 158)).alloc (.cells #[B G 0,B G 0,B G 0,K none 0 0] 158)) #[] 0 (f _) (by decide) rfl;have z:Below w.heap.size w (((w.alloc (.cells #[B G i,B G s,B G q,K (some ⟨b,d,none⟩) zs.length cap] 158)).alloc (.cells #[B G 0,B G 0,B G 0,K none 0 0] 158)).alloc (.cells #[] 210)):=by go_grown
 have B1:=(Va w 158 #[B G i,B G s,B G q,K (some ⟨b,d,none⟩) zs.length cap]).below (w':=((w.alloc (.cells #[B G i,B G s,B G q,K (some ⟨b,d,none⟩) zs.length cap] 158)).alloc (.cells #[B G 0,B G 0,B G 0,K none 0 0] 158)).alloc (.cells #[] 210)) (by go_grown);have B2:=(Va (w.alloc (.cells #[B G i,B G s,B G q,K (some ⟨b,d,none⟩) zs.length cap] 158)) 158 #[B G 0,B G 0,B G 0,K none 0 0]).below (w':=((w.alloc (.cells #[B G i,B G s,B G q,K (some ⟨b,d,none⟩) zs.length cap] 158)).alloc (.cells #[B G 0,B G 0,B G 0,K none 0 0] 158)).alloc (.cells #[] 210)) (by go_grown);have HS:Hid (∀j u,(z0p zs)[j]?=some u→_):=hs;clear hs;simp only[World.size_alloc]at B2 ho;go_enter func120,ntmps120
 go_wp2_with (at_builtin;refine wpList_append_own _ rfl _ _ 156 rfl (w.heap.size+1+1) 210 i0 (.agg #[B G 0,B G 0,B G 0]) 3 24 Tryz.underlying156 hi D E I rfl (by decide) _ 0 [] rfl ho ⟨b,d,none⟩ zs.length cap (z0p zs) rfl C HS.out ?c2 ?c3 ?c4 ?c5 ?_)
 all_goals try(case c2=>exact z2G zs)
 all_goals try(case c3=>unfold maxLen;omega)
 all_goals try(case c4=>omega)
 all_goals try(case c5=>simp)
 intro v' w2 y x _;obtain⟨a2,c2,rfl⟩:=z0f y;replace B1:=B1.grown x (by simp[Value.ownBlock]<;>omega);replace B2:=B2.grown x (by simp[Value.ownBlock]<;>omega);have A:Below w.heap.size w w2:=z.grown x (by simp;omega) (fun k hk=>by simp[Value.ownBlock]at hk;omega);have J:=B2.lt;obtain⟨p0,p1,p2,p3⟩:=B1.cel4;have pf:=B1.frozen 3;obtain⟨q0,q1,q2,q3⟩:=B2.cel4;obtain⟨f0,f1,f2,f3⟩:=B2.frz4;try simp only[Nat.zero_add]at y
 clear B1 B2 x HS ho z
 go_wp2
 refine bodyPost_ret (v:=.agg #[B G i,B G s,B G q,K a2 zs.length c2]) (by simp[results,results120,go_sem,q0,q1,q2,q3]) rfl ⟨_,_,rfl,?_,?_⟩
 ·refine z0r (base:=w.heap.size+1+1) ?_ (by omega);repeat' (refine ownsRow_setCell_below ?_ (by dsimp only;omega) _)
  simpa using y
 ·repeat' (refine Below.setCell ?_ (by dsimp only;omega) _)
  exact A
theorem z8Z(i s q:Int)(w:World):
  Calls P 120 #[.agg #[B G i,B G s,B G q,K none 0 0]] w fun e w'=>∃a c,e=.returned (.agg #[B G i,B G s,B G q,K a 0 c])∧
   w'.ownsRow w.heap.size 210 3 (K a 0 c) 0 (z0p [])∧Below w.heap.size w w':=by
 obtain⟨i0,hi,hz0,hz1,hz2⟩:=info_parts z5k;have ho:=World.ownsRow_lit (e:=210) (size:=3) ((w.alloc (.cells #[B G i,B G s,B G q,K none 0 0] 158)).alloc (.cells #[B G 0,B G 0,B G 0,K none 0 0] 158)) #[] 0 (f _) (by decide) rfl;have hb1:Below w.heap.size w (((w.alloc (.cells #[B G i,B G s,B G q,K none 0 0] 158)).alloc (.cells #[B G 0,B G 0,B G 0,K none 0 0] 158)).alloc (.cells #[] 210)):=by go_grown
 have B1:=(Va w 158 #[B G i,B G s,B G q,K none 0 0]).below (w':=((w.alloc (.cells #[B G i,B G s,B G q,K none 0 0] 158)).alloc (.cells #[B G 0,B G 0,B G 0,K none 0 0] 158)).alloc (.cells #[] 210)) (by go_grown);have B2:=(Va (w.alloc (.cells #[B G i,B G s,B G q,K none 0 0] 158)) 158 #[B G 0,B G 0,B G 0,K none 0 0]).below (w':=((w.alloc (.cells #[B G i,B G s,B G q,K none 0 0] 158)).alloc (.cells #[B G 0,B G 0,B G 0,K none 0 0] 158)).alloc (.cells #[] 210)) (by go_grown);simp only[World.size_alloc]at B2 ho;go_enter func120,ntmps120
 go_wp2_with (at_builtin;refine wpList_append_own_none rfl _ _ 156 rfl (w.heap.size+1+1) 210 i0 3 Tryz.underlying156 hi _ 0 [] rfl ho rfl ?_)
 have hlt2:=B2.lt;obtain⟨p0,p1,p2,p3⟩:=B1.cel4;have pf:=B1.frozen 3;obtain⟨q0,q1,q2,q3⟩:=B2.cel4;obtain⟨f0,f1,f2,f3⟩:=B2.frz4;clear B1 B2
 go_wp2
 refine bodyPost_ret (v:=.agg #[B G i,B G s,B G q,K (some ⟨w.heap.size+1+1,0,none⟩) 0 0]) (by simp[results,results120,go_sem]) rfl ⟨_,_,rfl,?_,?_⟩
 ·have h9:=World.ownsRow_lit (e:=210) (size:=3) ((w.alloc (.cells #[B G i,B G s,B G q,K (some ⟨w.heap.size+1+1,0,none⟩) 0 0] 158)).alloc (.cells #[B G i,B G s,B G q,K (some ⟨w.heap.size+1+1,0,none⟩) 0 0] 158)) #[] 0 (f _) (by decide) rfl;simp only[World.size_alloc]at h9;exact z0r h9 (by omega)
 ·go_grown
def z80(p:TxnQ):Prop:=(p.va=K none 0 0∧p.acts=[])∨∃b off c,p.va=K (some ⟨b,off,none⟩) p.acts.length c
theorem z81(p:TxnQ)(w:World)(h:txnK.rd w p)(hN:z80 p)(hl:p.acts.length≤1048576):
  Calls P 120 #[.agg #[B G p.i,B G p.s,B G p.q,p.va]] w fun e w'=>∃a c,e=.returned (.agg #[B G p.i,B G p.s,B G p.q,K a p.acts.length c])∧
   w'.ownsRow w.heap.size 210 3 (K a p.acts.length c) p.acts.length (z0p p.acts)∧Below w.heap.size w w':=by
 obtain⟨i,s,q,va,acts⟩:=p;dsimp only;rcases hN with⟨e1,e2⟩|⟨b,off,c,e1⟩
 ·dsimp only at e1 e2;subst e1 e2;exact z8Z i s q w
 ·dsimp only at e1;subst e1;have hT:actK.At w (K (some ⟨b,off,none⟩) acts.length c) acts:=h;exact z8Y i s q b off c acts w (z0Z hT).2 hl
theorem z3u(v:Value)(ps:List TxnQ)(w:World)(h:txnK.At w v ps)(aq:∀p∈ps,z80 p)(hl:ps.length+nmL TxnQ.n ps≤1048576):
  Calls P 116 #[v] w fun e w'=>∃v' qs,e=.returned v'∧qs.map m=ps.map m∧txnK.Own w' v' qs∧(txnK.fp v' qs).Nodup∧(∀k∈txnK.fp v' qs,w.heap.size≤k)∧Below w.heap.size w w':=by
 obtain⟨a,cap,rfl⟩:=h.shape;obtain⟨i0,hi,aw,ax,ay⟩:=info_parts z1y;have ho:=World.ownsRow_lit (e:=158) (size:=4) w #[] 0 (f _) (by decide) rfl;have af:txnK.Own (w.alloc (.cells #[] 158)) (K (some ⟨w.heap.size,0,none⟩) 0 0) ([]:List TxnQ):=⟨(z0y ho).1,fun p hp=>by simp at hp⟩
 have ah:Below w.heap.size w (w.alloc (.cells #[] 158)):=by go_grown
 have X:Hid ((txnK.fp (K (some ⟨w.heap.size,0,none⟩) 0 0) ([]:List TxnQ)).Nodup∧∀k∈txnK.fp (K (some ⟨w.heap.size,0,none⟩) 0 0) ([]:List TxnQ),w.heap.size≤k):=by
  refine⟨?_,?_⟩
  ·simp[Kind.fp,blk,Value.ownBlock]
  ·simp[Kind.fp,blk,Value.ownBlock]
 clear ho;go_enter func116,ntmps116
 go_wp2
 go_loopw[3,4] (fun v j wr=>∃ (k:Nat) (qs:List TxnQ),k≤ps.length∧j=B G k∧Hid (qs.map m=(ps.take k).map m)∧txnK.Own wr v qs∧Hid ((txnK.fp v qs).Nodup∧∀k∈txnK.fp v qs,w.heap.size≤k)∧Below w.heap.size w wr) (fun _ j _=>ps.length-(intOf j).toNat)
 case atStart=>exact⟨0,[],Nat.zero_le _,rfl,(rfl:_=_),af,X,ah⟩
 case round=>
  clear X af ah;obtain⟨k,qs,hk,rfl,HE,hO,HN,hb⟩:=hrel;obtain⟨sa,sc,rfl⟩:=hO.shape;have Z:Hid (qs.length=k):=by
   have:=congrArg List.length HE.out;rw[List.length_map,List.length_map,List.length_take]at this;show qs.length=k;omega
  by_cases J:k<ps.length
  ·obtain⟨b,az,rfl,aB,hc,C⟩:=(h.below hb).cell (by decide) k J;have z:∀j x,(txnK.cells ps[k])[j]?=some x→wr.cell? ⟨b,az+k*4+j,none⟩=some x:=hc;have c0:=z 0 (B G ps[k].i) rfl;have c1:=z 1 (B G ps[k].s) rfl;have c2:=z 2 (B G ps[k].q) rfl;have c3:=z 3 (ps[k].va) rfl;have V:=z01 TxnQ.n ps k J;have N:=aq _ (List.getElem_mem J);have Y:Hid (∀p':TxnQ,p'.e=m ps[k]→(qs++[p']).map m=(ps.take (k+1)).map m):=fun p' ar=>by
    rw[List.take_succ_eq_append_getElem J,List.map_append,List.map_append,HE.out,List.map_singleton,List.map_singleton,ar]
   clear hc z;generalize ps[k]=p at*;obtain⟨i,s,q,va,c⟩:=p;replace C:actK.At wr va c:=C;replace V:c.length≤nmL TxnQ.n ps:=V;obtain⟨aa,ac,rfl⟩:=C.shape;dsimp only at c0 c1 c2 c3;have U:=z81 (⟨i,s,q,K aa c.length ac,c⟩:TxnQ) wr C N (by dsimp only;omega);dsimp only at U;rw[Nat.add_zero]at c0;clear HE
   go_wp2_with fail
   clear c0 c1 c2 c3;have aA:w.heap.size≤wr.heap.size:=hb.size;refine U.mono ?_;rintro e w2 ⟨a2,c2,rfl,aj,E⟩;have W:=hO.lt;replace hO:=hO.below E;replace hb:=hb.trans (E.mono hb.size);obtain⟨o2,ae⟩:=z0y aj;have hP:txnK.own w2 ⟨i,s,q,K a2 c.length c2,c⟩:=⟨o2,fun _ _=>trivial⟩
   have d:∀x∈txnK.foot ⟨i,s,q,K a2 c.length c2,c⟩,wr.heap.size≤x:=fun x hx=>ae x (by rw[←z1a (K a2 c.length c2) c];exact hx)
   have ad:(txnK.foot ⟨i,s,q,K a2 c.length c2,c⟩).Nodup:=by
    show(actK.fp _ _).Nodup;rw[z1a];exact z0t _
   have y:Below w2.heap.size w2 (w2.alloc (.cells #[B G i,B G s,B G q,K a2 c.length c2] 158)):=by go_grown
   have O:=hO.below y;have ab:=txnK.own_out (F:=[]) hP (Out.of_below y) (fun _ _=>by simp);have I:=hb.trans (y.mono hb.size);clear U aj hO hP ae;have D:=O.1
   go_wp2_with (at_builtin;refine wpList_append_own_at _ rfl _ _ 52 rfl 0 158 i0 (.agg #[B G 0,B G 0,B G 0,K none 0 0]) 4 48 Tryz.underlying52 hi aw ax ay rfl (by decide) _ qs.length (txnK.row qs) rfl D ⟨w2.heap.size,0,none⟩ 1 1 [B G i,B G s,B G q,K a2 c.length c2] rfl rfl ?c1 ?c2 ?c3 ?c4 ?c5 ?_)
   all_goals try(case c1=>intro j u hj;match j,hj with|0,hj=>simp at hj;subst hj;simp[Addr.add]|1,hj=>simp at hj;subst hj;simp[Addr.add]|2,hj=>simp at hj;subst hj;simp[Addr.add]|3,hj=>simp at hj;subst hj;simp[Addr.add])
   all_goals try(case c2=>intro u hu;simp at hu;rcases hu with rfl|rfl|rfl|rfl<;>rfl)
   all_goals try(case c3=>have:=Z.out;unfold maxLen;omega)
   all_goals try(case c4=>have:=Z.out;omega)
   all_goals try(case c5=>first|omega|simp)
   intro v' w5 M A ai T;clear ai D;rw[show w2.heap.size+1=(w2.alloc (.cells #[B G i,B G s,B G q,K a2 c.length c2] 158)).heap.size from(World.size_alloc _ _).symm]at T;generalize au:w2.alloc (.cells #[B G i,B G s,B G q,K a2 c.length c2] 158)=WA at*;clear au;have aC:wr.heap.size≤WA.heap.size:=by have:=E.size;have:=y.size;omega
   obtain⟨an,ag,L,ak⟩:=O.snoc HN.out.1 HN.out.2 ab ad (fun x hx av=>by have:=W x av;have:=d x hx;omega) (fun x hx=>by have:=d x hx;omega) I.size M A T;have ao:Below w.heap.size w w5:=Out.keep I ak I.size (fun x hx=>HN.out.2 x (by simp only[Kind.fp,List.mem_append];exact Or.inl hx));have al:Hid ((qs++[(⟨i,s,q,K a2 c.length c2,c⟩:TxnQ)]).map m=(ps.take (k+1)).map m):=Y.out _ rfl;have am:Hid ((txnK.fp v' (qs++[(⟨i,s,q,K a2 c.length c2,c⟩:TxnQ)])).Nodup∧∀k∈txnK.fp v' (qs++[(⟨i,s,q,K a2 c.length c2,c⟩:TxnQ)]),w.heap.size≤k):=⟨ag,L⟩
   clear Y HN W d ad ab O I M A T ak ag L C hb y E V N
   go_wp2
   go_roundw
   case rel=>exact⟨k+1,_,by omega,by go_num,al,an,am,ao⟩
   case measure=>simp[intOf];omega
  ·have ap:k=ps.length:=by omega
   subst ap;have hE:=HE.out;rw[List.take_length]at hE;clear HE
   go_wp2
   go_ret;exact⟨_,qs,rfl,hE,hO,HN.out.1,HN.out.2,hb⟩
theorem q0B{w:World}{p:TxnQ}(h:txnK.own w p):z80 p:=by
 have h:actK.Own w p.va p.acts:=h;rcases h.1.2 with⟨h1,h0⟩|⟨g,cap,cur,h1,_⟩
 ·exact Or.inl ⟨h1,List.eq_nil_of_length_eq_zero h0⟩
 ·exact Or.inr ⟨g,0,cap,h1⟩
theorem q4l{w:World}{base e size n:Nat}{v:Value}{xs:List Value}(h:w.ownsRow base e size v n xs):z8v v:=by
 rcases h.2 with⟨rfl,_⟩|⟨g,cap,cur,rfl,_,_,h1,h2,_⟩
 ·exact⟨Nat.zero_le _,Nat.zero_le _⟩
 ·exact⟨h1,h2⟩
theorem q4K{ps qs:List TxnQ}(h:ps.map m=qs.map m):ps.length+nmL TxnQ.n ps=qs.length+nmL TxnQ.n qs:=by
 have e:∀l:List TxnQ,nmL TxnQ.n l=nmL TxnD.n (l.map m):=fun l=>by simp only[nmL,List.map_map];rfl
 have hl:ps.length=qs.length:=by simpa using congrArg List.length h
 rw[e,e,h,hl]
end Go.Proofs.YtjjoahhnkpjolaaGreatDoor

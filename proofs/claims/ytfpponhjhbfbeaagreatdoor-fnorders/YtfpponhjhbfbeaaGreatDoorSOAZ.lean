/- Texts joined,with what the laws reach alone. -/
import Derived.Test.YtfpponhjhbfbeaaGreatDoorSOAY
import Derived.Test.YtfpponhjhbfbeaaGreatDoorSOAV
import Derived.Test.YtfpponhjhbfbeaaGreatDoorSOAW
set_option linter.unusedVariables false
set_option linter.unusedSimpArgs false
set_option maxRecDepth 100000
set_option maxHeartbeats 8000000
namespace Go.Proofs.YtfpponhjhbfbeaaGreatDoor
open Go.RowKit Go.BigFrame
theorem z65(v:Value)(ps:List InstQ)(w:World)(h:instK.At w v ps)(hl:(ps.length+nmL InstQ.n ps)≤1048576)(h0:ordF (ps.map InstQ.e)=0):
  Calls Tryz.prog 46 #[v] w fun e w'=>∃ (v':Value) (qs:List InstQ),e=.returned (.tuple #[v',.int .i64 (niC (ps.map InstQ.e))])∧qs.map InstQ.e=niO (ps.map InstQ.e)∧instK.Own w' v' qs∧(instK.fp v' qs).Nodup∧(∀k∈instK.fp v' qs,w.heap.size≤k)∧Below w.heap.size w w':=by
 have HO:Hid (ordF (ps.map InstQ.e)=0→1≤ps.length∧ps.length≤4∧∀q∈ps,insF (InstQ.e q)=0):=fun h0=>by
  have:=((z06 _).1 h0).1;rw[List.length_map]at this;exact⟨this.1,this.2,fun q hq=>z1L h0 _ (List.mem_map.2 ⟨q,hq,rfl⟩)⟩
 obtain⟨p1,p4,hin⟩:=HO.out h0;have hlow:=fun q hq=>z2l (hin q hq)
 have hof:=z1N v ps w h hl p1 p4;have hco:=fun w h hlow=>z62 v ps w h hlow hl
 obtain⟨a,cap,rfl⟩:=h.shape;obtain⟨i0,hi,hz0,hz1,hz2⟩:=info_parts z01;have hw:=z30 (ps.map InstQ.e);have hdl:=z3X (ps.map InstQ.e);rw[List.length_map]at hw hdl;generalize niC (ps.map InstQ.e)=D at*;generalize niO (ps.map InstQ.e)=O at*;have HEP:Hid (∀q1:List InstQ,∀q:InstQ,q1.map InstQ.e=ps.map InstQ.e→q.e=z5E→(q1++[q]).map InstQ.e=ps.map InstQ.e++[z5E]):=fun q1 q h1 h2=>by rw[List.map_append,h1,List.map_singleton,h2]
 have HLE:Hid (∀q1:List InstQ,q1.map InstQ.e=ps.map InstQ.e→q1.length=ps.length):=fun q1 h1=>by simpa using congrArg List.length h1
 clear HO hin;generalize ordF (ps.map InstQ.e)=C at*;generalize decN (ps.map InstQ.e)=M at*;generalize ps.map InstQ.e=ds at*;go_enter Tryz.func46,Tryz.ntmps46
 go_wp2_with fail
 refine hof.mono ?_;rintro e WB ⟨rfl,hB⟩;clear hof;rcases hw with⟨hC,e1,e2⟩|⟨hC,hM,e1,e2⟩|⟨hC,hM,h4,e1,e2⟩|⟨hC,hM,h4,e1,e2⟩
 ·exact absurd h0 hC
 ·have E1:Hid (D=8∧O=[]):=⟨e1,e2⟩
  have hM':(M:Int)<(ps.length:Int):=by omega
  clear e1 e2 HEP HLE hM h0 hC;obtain⟨hn1,hn2⟩:=Kind.own_nil (K:=instK) w;clear hn1
  go_wp2
  exact bodyPost_ret (v:=.tuple #[.slice none 0 0,.int .i64 8]) (by simp[results,Tryz.results46,go_sem]) rfl ⟨.slice none 0 0,[],by rw[E1.out.1],by rw[E1.out.2];rfl,(Kind.own_nil _).1,by rw[hn2];simp,by rw[hn2];simp,hB⟩
 ·have E1:Hid (D=7∧O=[]):=⟨e1,e2⟩
  have hM':¬(M:Int)<(ps.length:Int):=by omega
  have h4':4≤ps.length:=by omega
  clear e1 e2 HEP HLE hM h4 h0 hC;obtain⟨hn1,hn2⟩:=Kind.own_nil (K:=instK) w;clear hn1
  go_wp2
  exact bodyPost_ret (v:=.tuple #[.slice none 0 0,.int .i64 7]) (by simp[results,Tryz.results46,go_sem]) rfl ⟨.slice none 0 0,[],by rw[E1.out.1],by rw[E1.out.2];rfl,(Kind.own_nil _).1,by rw[hn2];simp,by rw[hn2];simp,hB⟩
 ·have HC0:Hid (D=0):=e1;have hM':¬(M:Int)<(ps.length:Int):=by omega
  have h4':¬4≤ps.length:=by omega
  clear e1 hM h4 h0 hC
  go_wp2_with fail
  refine(hco WB (h.below hB) hlow).mono ?_;rintro e Y ⟨vq,qs,rfl,eqs,hO,hn0,hlo0,hbY⟩;obtain⟨sa,sc,rfl⟩:=hO.shape;have hqn:=HLE.out qs eqs;have HQL:Hid (qs.length≤4):=show _≤_ by omega
  have HLT:Hid (∀x∈instK.fp (.slice sa qs.length sc) qs,x<Y.heap.size):=hO.lt;have HYS:Hid (WB.heap.size≤Y.heap.size):=hbY.size;have HN:Hid ((instK.fp (.slice sa qs.length sc) qs).Nodup∧∀k∈instK.fp (.slice sa qs.length sc) qs,WB.heap.size≤k):=⟨hn0,hlo0⟩
  clear hn0 hlo0 hco hlow hqn
  go_wp2_with fail
  refine(z3S Y).mono ?_;rintro e w2 ⟨q,rfl,eq,oq,nq,gq,hb2⟩;have HQ5:Hid (_=O):=(HEP.out qs q eqs eq).trans e2.symm;replace hO:=hO.below hb2;have hb:=hbY.trans (hb2.mono hbY.size);have h2s:=hb2.size;clear hb2 hbY HEP HLE eqs eq e2;obtain⟨qh,qvb,qb,qvr,qr,qvd,qd⟩:=q;obtain⟨x1,y1,rfl⟩:∃a c,qvb=.slice a qb.length c:=oq.1.shape;obtain⟨x2,y2,rfl⟩:∃a c,qvr=.slice a qr.length c:=oq.2.1.shape;obtain⟨x3,y3,rfl⟩:∃a c,qvd=.slice a qd.length c:=oq.2.2.shape;have hbA:Below w2.heap.size w2 (w2.alloc (.cells #[.bool qh,.slice x1 qb.length y1,.slice x2 qr.length y2,.slice x3 qd.length y3] 49)):=by go_grown
  have hOA:=hO.below hbA;have hPA:=instK.own_out (F:=[]) oq (Out.of_below hbA) (fun _ _=>by simp);have hbB:=hb.trans (hbA.mono hb.size);have hYA:Y.heap.size≤(w2.alloc (.cells #[.bool qh,.slice x1 qb.length y1,.slice x2 qr.length y2,.slice x3 qd.length y3] 49)).heap.size:=by have:=hbA.size;omega
  clear hO oq;have hrow0:=hOA.1
  go_wp2_with (at_builtin;refine wpList_append_own_at _ rfl _ _ 24 rfl 0 49 i0 (.agg #[.bool false,.slice none 0 0,.slice none 0 0,.slice none 0 0]) 4 80 Tryz.underlying24 hi hz0 hz1 hz2 rfl (by decide) _ qs.length (instK.row qs) rfl hrow0 ⟨w2.heap.size,0,none⟩ 1 1 [.bool qh,.slice x1 qb.length y1,.slice x2 qr.length y2,.slice x3 qd.length y3] rfl rfl ?c1 ?c2 ?c3 ?c4 ?c5 ?_)
  all_goals try(case c1=>intro j u hj;match j,hj with|0,hj=>simp at hj;subst hj;simp[Addr.add]|1,hj=>simp at hj;subst hj;simp[Addr.add]|2,hj=>simp at hj;subst hj;simp[Addr.add]|3,hj=>simp at hj;subst hj;simp[Addr.add])
  all_goals try(case c2=>intro u hu;simp at hu;rcases hu with rfl|rfl|rfl|rfl<;>rfl)
  all_goals try(case c3=>have:=HQL.out;unfold maxLen;omega)
  all_goals try(case c4=>have:=HQL.out;omega)
  all_goals try(case c5=>first|omega|simp)
  intro v' w5 hown hgrow hnil hat;clear hnil hrow0;rw[show w2.heap.size+1=(w2.alloc (.cells #[.bool qh,.slice x1 qb.length y1,.slice x2 qr.length y2,.slice x3 qd.length y3] 49)).heap.size from(World.size_alloc _ _).symm]at hat;generalize hwA:w2.alloc (.cells #[.bool qh,.slice x1 qb.length y1,.slice x2 qr.length y2,.slice x3 qd.length y3] 49)=WA at*;clear hwA;obtain⟨hO5,hn5,hlo5,hou⟩:=hOA.snoc (p:=(⟨qh,.slice x1 qb.length y1,qb,.slice x2 qr.length y2,qr,.slice x3 qd.length y3,qd⟩:InstQ)) HN.out.1 HN.out.2 hPA nq (fun x hx hx'=>by have:=HLT.out x hx';have:=gq x hx;omega) (fun x hx=>by have:=gq x hx;have:=HYS.out;omega) hbB.size hown hgrow hat;have hb5:Below WB.heap.size WB w5:=Out.keep hbB hou hbB.size (fun x hx=>HN.out.2 x (by simp only[Kind.fp,List.mem_append];exact Or.inl hx));obtain⟨xa,xc,hsh⟩:=hO5.shape;subst hsh;generalize hQ5:qs++[(⟨qh,.slice x1 qb.length y1,qb,.slice x2 qr.length y2,qr,.slice x3 qd.length y3,qd⟩:InstQ)]=Q5 at*;have hbs:=hB.size;have HFIN:Hid (instK.Own w5 (.slice xa Q5.length xc) Q5∧(instK.fp (.slice xa Q5.length xc) Q5).Nodup∧(∀k∈instK.fp (.slice xa Q5.length xc) Q5,w.heap.size≤k)∧Below w.heap.size w w5):=⟨hO5,hn5,fun k hk=>by have:=hlo5 k hk;omega,hB.trans (hb5.mono hB.size)⟩
  clear hO5 hn5 hlo5 hb5 hB hou hown hgrow hat hOA hPA hbB hbA
  go_wp2
  exact bodyPost_ret (v:=.tuple #[.slice xa Q5.length xc,.int .i64 0]) (by simp[results,Tryz.results46,go_sem]) rfl ⟨.slice xa Q5.length xc,Q5,by rw[HC0.out],HQ5.out,HFIN.out.1,HFIN.out.2.1,HFIN.out.2.2.1,HFIN.out.2.2.2⟩
theorem z19(v:Value)(ps:List InstQ)(w:World)(h:instK.At w v ps)(hl:(ps.length+nmL InstQ.n ps)≤1048576):
  Calls Tryz.prog 14 #[v] w fun e w'=>∃ (v':Value) (qs:List InstQ),e=.returned (.agg #[.int .i64 (niC (ps.map InstQ.e)),v'])∧qs.map InstQ.e=niO (ps.map InstQ.e)∧instK.Own w' v' qs∧(instK.fp v' qs).Nodup∧(∀k∈instK.fp v' qs,w.heap.size≤k)∧Below w.heap.size w w':=by
 have hof:=fun w h=>z1M v ps w h hl
 have hnx:=fun w h h0=>z65 v ps w h hl h0
 obtain⟨a,cap,rfl⟩:=h.shape;have HB:Hid (ordF (ps.map InstQ.e)≠0→niC (ps.map InstQ.e)=ordF (ps.map InstQ.e)∧niO (ps.map InstQ.e)=[]):=fun h0=>by
  rcases z30 (ps.map InstQ.e)with⟨_,e1,e2⟩|⟨hC,_⟩|⟨hC,_⟩|⟨hC,_⟩
  ·exact⟨e1,e2⟩
  ·exact absurd hC h0
  ·exact absurd hC h0
  ·exact absurd hC h0
 generalize niC (ps.map InstQ.e)=D at*;generalize niO (ps.map InstQ.e)=O at*;generalize ordF (ps.map InstQ.e)=C at*;have hB:Below w.heap.size w (w.alloc (.cells #[.int .i64 0,.slice none 0 0] 33)):=by go_grown
 have Rb:=Blk.new w 33 #[.int .i64 0,.slice none 0 0];go_enter Tryz.func14,Tryz.ntmps14
 go_wp2_with fail
 generalize w.alloc (.cells #[.int .i64 0,.slice none 0 0] 33)=W at*;refine(hof W (h.below hB)).mono ?_;rintro e w1 ⟨rfl,hb⟩;replace hB:=hB.trans (hb.mono hB.size);replace Rb:=Rb.below hb;clear hb hof;by_cases hC:C=0
 ·have hnx1:=hnx w1 (h.below hB) hC;have hlt:=Rb.lt;subst hC;clear HB hnx
  go_wp2_with fail
  refine hnx1.mono ?_;rintro e w2 ⟨v',Q5,rfl,HQ,hO5,hn5,hlo5,hb5⟩;obtain⟨xa,xc,rfl⟩:=hO5.shape;have R5:=Rb.below hb5;have q0:=R5.cell 0 _ rfl;have q1:=R5.cell 1 _ rfl;have f0:=R5.frozen 0;have f1:=R5.frozen 1;have HQ5:Hid (_=O):=HQ;have HFIN:Hid (∀u u',instK.Own ((w2.setCell ⟨w.heap.size,0,none⟩ u).setCell ⟨w.heap.size,1,none⟩ u') (.slice xa Q5.length xc) Q5∧Below w.heap.size w ((w2.setCell ⟨w.heap.size,0,none⟩ u).setCell ⟨w.heap.size,1,none⟩ u')):=fun u u'=>by
   refine⟨hO5.out (((Out.refl [w.heap.size] w2).set (b:=w.heap.size) (j:=0) (u:=u) (by simp)).set (b:=w.heap.size) (j:=1) (u:=u') (by simp)) (fun k hk=>by have:=hlo5 k hk;simp only[List.mem_singleton];omega),?_⟩;have hbb:=hB.trans (hb5.mono hB.size);exact(hbb.setCell (p:=⟨w.heap.size,0,none⟩) (Nat.le_refl _) _).setCell (p:=⟨w.heap.size,1,none⟩) (Nat.le_refl _) _
  have HL5:Hid ((instK.fp (.slice xa Q5.length xc) Q5).Nodup∧∀k∈instK.fp (.slice xa Q5.length xc) Q5,w.heap.size≤k):=⟨hn5,fun k hk=>by have:=hlo5 k hk;omega⟩
  clear hO5 hn5 hlo5 hb5 hB Rb R5 HQ
  go_wp2
  exact bodyPost_ret (v:=.agg #[.int .i64 D,.slice xa Q5.length xc]) (by simp[results,Tryz.results14,go_sem,q0,q1]) rfl ⟨.slice xa Q5.length xc,Q5,rfl,HQ5.out,(HFIN.out _ _).1,HL5.out.1,HL5.out.2,(HFIN.out _ _).2⟩
 ·have hC':(C !=0)=true:=by simpa using hC
  have E1:Hid (D=C∧O=[]):=HB.out hC;clear HB hnx;have q0:=Rb.cell 0 _ rfl;have q1:=Rb.cell 1 _ rfl;have f0:=Rb.frozen 0;have f1:=Rb.frozen 1;obtain⟨hn1,hn2⟩:=Kind.own_nil (K:=instK) w;clear hn1
  go_wp2
  exact bodyPost_ret (v:=.agg #[.int .i64 C,.slice none 0 0]) (by simp[results,Tryz.results14,go_sem,q0,q1]) rfl ⟨.slice none 0 0,[],by rw[E1.out.1],by rw[E1.out.2];rfl,(Kind.own_nil _).1,by rw[hn2];simp,by rw[hn2];simp,(hB.setCell (p:=⟨w.heap.size,0,none⟩) (Nat.le_refl _) _).setCell (p:=⟨w.heap.size,1,none⟩) (Nat.le_refl _) _⟩
theorem z9L(q:InstQ):q.n=InstE.n q.e:=by
 unfold InstE.n z5L z1r InstQ.e;simp only[InstQ.n,List.length_map,nmL,List.map_map];rfl
theorem z59{qs:List InstQ}(h:∀q∈qs,insF (InstQ.e q)=0):qs.length+nmL InstQ.n qs≤qs.length*61:=by
 have h1:=z1h InstQ.n 60 qs (fun q hq=>by rw[z9L];exact z0u (h q hq));omega
theorem q0U{ps:List InstQ}{qs:List InstQ}(h:qs.map InstQ.e=niO (ps.map InstQ.e))(hp:(ps.length+nmL InstQ.n ps)≤1048576):qs.length+nmL InstQ.n qs≤1048576:=by
 rcases z30 (ps.map InstQ.e)with⟨_,_,e2⟩|⟨_,_,_,e2⟩|⟨_,_,_,_,e2⟩|⟨h0,_,_,_,e2⟩
 ·rw[e2]at h;have:qs=[]:=by simpa using h
  subst this;simp[nmL]
 ·rw[e2]at h;have:qs=[]:=by simpa using h
  subst this;simp[nmL]
 ·rw[e2]at h;have:qs=[]:=by simpa using h
  subst this;simp[nmL]
 ·rw[e2]at h;have hl:=congrArg List.length h;have hl2:=((z06 _).1 h0).1;rw[List.length_map]at hl2;simp only[List.length_map,List.length_append,List.length_singleton]at hl;have:=z59 (qs:=qs) (fun q hq=>by
   have hm:InstQ.e q∈ps.map InstQ.e++[z5E]:=by rw[←h];exact List.mem_map.2 ⟨q,hq,rfl⟩
   rcases List.mem_append.1 hm with hm|hm
   ·exact z1L h0 _ hm
   ·simp only[List.mem_singleton]at hm;rw [hm];decide +kernel)
  have h5:qs.length≤5:=by omega
  have h6:qs.length*61≤5*61:=Nat.mul_le_mul_right _ h5;omega
theorem Kind.At.take{P:Type}{K:Kind P}{w:World}{a:Option Addr}{n cap:Nat}{ps:List P}(h:K.At w (.slice a n cap) ps)(m:Nat)(hm:m≤ps.length):K.At w (.slice a m cap) (ps.take m):=by
 obtain⟨a',c,e,hl,hr⟩:=h;simp only[Value.slice.injEq]at e;obtain⟨rfl,_,rfl⟩:=e;refine⟨a,cap,by rw[List.length_take,Nat.min_eq_left hm],?_,fun p hp=>hr p (List.mem_of_mem_take hp)⟩;have er:K.row ps=K.row (ps.take m)++K.row (ps.drop m):=by
  unfold Kind.row;rw[←List.flatMap_append,List.take_append_drop]
 rcases hl with h0|⟨b,off,ha,hlt,hc⟩
 ·left;rw[er]at h0;exact(List.append_eq_nil_iff.1 h0).1
 ·right;refine⟨b,off,ha,hlt,fun j x hx=>hc j x ?_⟩;rw[er,List.getElem?_append_left (List.getElem?_eq_some_iff.1 hx).1];exact hx
theorem Kind.Own.cap{P:Type}{K:Kind P}{w:World}{a:Option Addr}{n cap:Nat}{ps:List P}(h:K.Own w (.slice a n cap) ps):n≤cap∧cap≤maxLen:=by
 rcases h.1.2 with⟨e,_⟩|⟨g,c,cur,e,_,_,h1,h2,_⟩
 ·simp only[Value.slice.injEq]at e;obtain⟨_,rfl,rfl⟩:=e;exact⟨Nat.le_refl _,by decide⟩
 ·simp only[Value.slice.injEq]at e;obtain⟨_,rfl,rfl⟩:=e;exact⟨h1,h2⟩
theorem z70{P:Type}{K:Kind P}{v:Value}{ps:List P}(h:(K.fp v ps).Nodup)(i:Nat)(hi:i<ps.length)(p:P)(hp:(K.foot p).Nodup)(hd:∀k∈K.foot p,k∉K.fp v ps):(K.fp v (ps.set i p)).Nodup:=by
 have e:ps=ps.take i++ps[i]::ps.drop (i+1):=by
  conv=>lhs;rw[←List.take_append_drop i ps,List.drop_eq_getElem_cons hi]
 have hA:K.fp v ps=blk v++((ps.take i).flatMap K.foot++(K.foot ps[i]++(ps.drop (i+1)).flatMap K.foot)):=by
  conv=>lhs;rw[e]
  simp only[Kind.fp,List.flatMap_append,List.flatMap_cons]
 rw[hA]at h hd;simp only[Kind.fp];rw[z7m ps i hi p];simp only[List.flatMap_append,List.flatMap_cons];generalize blk v=A at*;generalize (ps.take i).flatMap K.foot=B at*;generalize (ps.drop (i+1)).flatMap K.foot=C at*;generalize K.foot p=D at*;generalize K.foot ps[i]=E at*;simp only[List.nodup_append,List.mem_append]at h hd⊢;obtain⟨hA1,⟨hB1,⟨hE1,hC1,hEC⟩,hBC⟩,hABC⟩:=h;refine⟨hA1,⟨hB1,⟨hp,hC1,?_⟩,?_⟩,?_⟩
 ·rintro a ha b hb rfl;exact hd a ha (Or.inr (Or.inr (Or.inr hb)))
 ·rintro a ha b (hb|hb) rfl
  ·exact hd a hb (Or.inr (Or.inl ha))
  ·exact hBC a ha a (Or.inr hb) rfl
 ·rintro a ha b (hb|hb|hb) rfl
  ·exact hABC a ha a (Or.inl hb) rfl
  ·exact hd a hb (Or.inl ha)
  ·exact hABC a ha a (Or.inr (Or.inr hb)) rfl
theorem z66(B b T:Nat)(w:World)(hS:Src B w b T)(hT:T≤300000):
  Calls Tryz.prog 72 #[.pointer (some ⟨b,0,none⟩)] w fun e w'=>∃ (v:Value) (ps:List InstQ),e=.returned v∧1≤ps.length∧ps.length≤4∧(∀p∈ps,insF (InstQ.e p)=0)∧instK.Own w' v ps∧(instK.fp v ps).Nodup∧(∀k∈instK.fp v ps,w.heap.size≤k)∧Src B w' b (T+12000)∧w.grownBy w' (some b):=by
 obtain⟨i0,hi0,hz0,hz1,hz2⟩:=info_parts z01;have hlt:=hS.lt;obtain⟨ho0,hk0⟩:=z0U (World.ownsRow_lit (e:=49) (size:=4) w #[] 0 (Nat.le_refl _) (by decide) rfl);have hg:w.grownBy (w.alloc (.cells #[] 49)) (some b):=World.grownBy_alloc w _ _;replace hS:Src B (w.alloc (.cells #[] 49)) b T:=hS.below (by go_grown);have hR:instK.Own (w.alloc (.cells #[] 49)) (.slice (some ⟨w.heap.size,0,none⟩) 0 0) ([]:List InstQ):=⟨ho0,fun p hp=>by simp at hp⟩
 have HN:Hid ((instK.fp (.slice (some ⟨w.heap.size,0,none⟩) 0 0) ([]:List InstQ)).Nodup∧∀k∈instK.fp (.slice (some ⟨w.heap.size,0,none⟩) 0 0) ([]:List InstQ),w.heap.size≤k):=by
  constructor
  ·simp[Kind.fp,blk,Value.ownBlock]
  ·intro k hk;simp[Kind.fp,blk,Value.ownBlock]at hk;omega
 go_enter Tryz.func72,Tryz.ntmps72
 go_wp2_with fail
 generalize w.alloc (.cells #[] 49)=W1 at*;refine(z0h B b T 4 W1 hS (by omega) (by omega)).mono ?_;rintro e w3 ⟨r,rfl,hr,hSn,hgn⟩;obtain⟨j0,rfl⟩:=Int.eq_ofNat_of_zero_le hr.1;have hj0:j0≤3:=by have:=hr.2.1 (by omega);omega
 replace hR:=hR.out (Out.of_grown hgn) (fun k hk hk' => by
  simp only[Option.toList,List.mem_singleton]at hk';have:=HN.out.2 k hk;omega)
 replace hg:=hg.trans hgn;replace hS:=hSn;clear hgn hSn hr ho0 hk0
 go_wp2
 go_loopw[3,4] (fun v c wr=>∃ (j:Nat) (ps:List InstQ),c=.int .i64 j∧j≤3∧j+ps.length≤3∧Hid (∀p∈ps,insF (InstQ.e p)=0)∧instK.Own wr v ps∧Hid ((instK.fp v ps).Nodup∧∀k∈instK.fp v ps,w.heap.size≤k)∧Src B wr b (T+1+2600*(3-j))∧w.grownBy wr (some b)) (fun _ c _=>(intOf c).toNat)
 case atStart=>exact⟨j0,[],rfl,by omega,by simp;omega,(by intro p hp;simp at hp),hR,HN,hS.mono (by omega),hg⟩
 case round=>
  clear hR hS hg HN;obtain⟨j,ps,rfl,hj3,hj,HP,hR,HN,hS,hg⟩:=hrel;have hsz:=hg.size;obtain⟨a1,c1,rfl⟩:=hR.shape;by_cases hpos:0<j
  ·go_wp2_with fail
   refine(z54 B b (T+1+2600*(3-j)) wr hS (by omega)).mono ?_;rintro e w4 ⟨q,rfl,hi,op,np,gp,hSn,hgn⟩;have HF:=hR.lt;replace hR:=hR.out (Out.of_grown hgn) (fun k hk hk' => by
    simp only[Option.toList,List.mem_singleton]at hk';have:=HN.out.2 k hk;omega)
   replace hg:=hg.trans hgn;replace hS:=hSn;clear hgn hSn;have hpd:∀k∈instK.foot q,k∉instK.fp (.slice a1 ps.length c1) ps:=fun x hx hx'=>by have:=gp x hx;have:=HF x hx';omega
   have hli:q.n≤1048576:=by rw[z0E];have:=z0u hi;omega
   obtain⟨fh,fb,fbs,fr,frs,fd,fds⟩:=q;obtain⟨f1,f4,rfl⟩:∃a c,fb=.slice a fbs.length c:=op.1.shape;obtain⟨f2,f5,rfl⟩:∃a c,fr=.slice a frs.length c:=op.2.1.shape;obtain⟨f3,f6,rfl⟩:∃a c,fd=.slice a fds.length c:=op.2.2.shape;have hbT:Below w4.heap.size w4 (w4.alloc (.cells #[.bool fh,.slice f1 fbs.length f4,.slice f2 frs.length f5,.slice f3 fds.length f6] 49)):=by go_grown
   have Bt:=Blk.new w4 49 #[.bool fh,.slice f1 fbs.length f4,.slice f2 frs.length f5,.slice f3 fds.length f6];have hsz4:=hg.size;replace hR:=hR.below hbT;replace op:=instK.own_out (F:=[]) op (Out.of_below hbT) (fun _ _=>by simp);replace hS:=hS.below hbT;replace hg:=z0c hg (hbT.mono hsz4);have hoc:=z0L w4.heap.size 0 (⟨fh,.slice f1 fbs.length f4,fbs,.slice f2 frs.length f5,frs,.slice f3 fds.length f6,fds⟩:InstQ) _ (⟨⟨Bt.cell 0 _ rfl,Bt.cell 1 _ rfl,Bt.cell 2 _ rfl,Bt.cell 3 _ rfl⟩,instK.own_rd op⟩:InstP _ w4.heap.size 0 (⟨fh,.slice f1 fbs.length f4,fbs,.slice f2 frs.length f5,frs,.slice f3 fds.length f6,fds⟩:InstQ)) hli;dsimp only at hoc;clear hbT HF
   go_wp2_with fail
   generalize w4.heap.size=H4 at*;generalize w4.alloc (.cells #[.bool fh,.slice f1 fbs.length f4,.slice f2 frs.length f5,.slice f3 fds.length f6] 49)=W4 at*;refine hoc.mono ?_;rintro e w6 ⟨rfl,hw6⟩;replace hw6:=hw6.symm;subst hw6;generalize outV fds=OV at*;by_cases hov:OV=3
   ·have hov':(OV !=3)=false:=by rw[hov];rfl
    clear hov op hoc Bt hpd
    go_wp2
    go_roundw
    case rel=>exact⟨j-1,ps,by go_num,by omega,by omega,HP,hR,HN,hS.mono (by omega),hg⟩
    case measure=>simp[intOf];omega
   ·have hov':(OV !=3)=true:=by simpa using hov
    have p0:=Bt.cell 0 _ rfl;have p1:=Bt.cell 1 _ rfl;have p2:=Bt.cell 2 _ rfl;have p3:=Bt.cell 3 _ rfl;clear hov hoc;have hbA:Below W4.heap.size W4 (W4.alloc (.cells #[.bool fh,.slice f1 fbs.length f4,.slice f2 frs.length f5,.slice f3 fds.length f6] 49)):=by go_grown
    have hsz6:=hg.size;have hR2:=hR.below hbA;have op2:=instK.own_out (F:=[]) op (Out.of_below hbA) (fun _ _=>by simp);have hrow0:=hR2.1
    go_wp2_with (at_builtin;refine wpList_append_own_at _ rfl _ _ 24 rfl 0 49 i0 (.agg #[.bool false,.slice none 0 0,.slice none 0 0,.slice none 0 0]) 4 80 Tryz.underlying24 hi0 hz0 hz1 hz2 rfl (by decide) _ ps.length (instK.row ps) rfl hrow0 ⟨W4.heap.size,0,none⟩ 1 1 [.bool fh,.slice f1 fbs.length f4,.slice f2 frs.length f5,.slice f3 fds.length f6] rfl rfl ?c1 ?c2 ?c3 ?c4 ?c5 ?_)
    all_goals try(case c1=>intro j u hj;match j,hj with|0,hj=>simp at hj;subst hj;simp[Addr.add]|1,hj=>simp at hj;subst hj;simp[Addr.add]|2,hj=>simp at hj;subst hj;simp[Addr.add]|3,hj=>simp at hj;subst hj;simp[Addr.add])
    all_goals try(case c2=>intro u hu;simp at hu;rcases hu with rfl|rfl|rfl|rfl<;>rfl)
    all_goals try(case c3=>unfold maxLen;omega)
    all_goals try(case c4=>omega)
    all_goals try(case c5=>first|omega|(simp;omega))
    intro v' w8 hown hgrow hnil hat;obtain⟨hO5,hn5,hlo5,hou⟩:=hR2.snoc (p:=(⟨fh,.slice f1 fbs.length f4,fbs,.slice f2 frs.length f5,frs,.slice f3 fds.length f6,fds⟩:InstQ)) (B:=w.heap.size) HN.out.1 HN.out.2 op2 np hpd (fun x hx=>by have:=gp x hx;omega) (by simp;omega) hown hgrow (by rw[World.size_alloc];exact hat);have HN5:Hid (_∧_):=And.intro hn5 hlo5;have hFlo:∀k∈blk (.slice a1 ps.length c1),w.heap.size≤k:=fun k hk=>HN.out.2 k (by simp only[Kind.fp,List.mem_append];exact Or.inl hk)
    have hg8:=z0g (z0c hg (hbA.mono hsz6)) hou hFlo;have hS8:=(hS.below hbA).out hou (fun hk=>by have:=hFlo b hk;omega) (fun k hk=>by have:=hFlo k hk;omega);have HL5:Hid ((ps++[(⟨fh,.slice f1 fbs.length f4,fbs,.slice f2 frs.length f5,frs,.slice f3 fds.length f6,fds⟩:InstQ)]).length=ps.length+1):=show _=_ by simp
    have HP5:Hid (∀p∈ps++[(⟨fh,.slice f1 fbs.length f4,fbs,.slice f2 frs.length f5,frs,.slice f3 fds.length f6,fds⟩:InstQ)],insF (InstQ.e p)=0):=by
     intro p hp;simp only[List.mem_append,List.mem_singleton]at hp;rcases hp with hp|rfl
     ·exact HP.out p hp
     ·exact hi
    clear p0 p1 p2 p3;clear hR hR2 op op2 hown hgrow hat hnil hou hbA hg hS hrow0 hn5 hlo5 hFlo hpd gp np;generalize ps++[(⟨fh,.slice f1 fbs.length f4,fbs,.slice f2 frs.length f5,frs,.slice f3 fds.length f6,fds⟩:InstQ)]=ps' at*
    go_wp2
    go_roundw
    case rel=>exact⟨j-1,ps',by go_num,by omega,by have:=HL5.out;omega,HP5,hO5,HN5,hS8.mono (by omega),hg8⟩
    case measure=>simp[intOf];omega
  ·have hj0:j=0:=by omega
   subst hj0;have hS:Src B wr b (T+7801):=hS.mono (by omega);by_cases hz:ps.length=0
   ·have hzi:((ps.length:Int)==0)=true:=by rw[hz];rfl
    have hz3:ps.length≤3:=by omega
    have HZ:Hid (ps.length=0):=hz;clear hz
    go_wp2_with fail
    refine(z14 B b (T+7801) 20 wr hS (by omega) (by omega)).mono ?_;rintro e w4 ⟨q,rfl,hi,op,np,gp,hSn,hgn⟩;have HF:=hR.lt;have hszR:=hg.size;replace hR:=hR.out (Out.of_grown hgn) (fun k hk hk' => by
     simp only[Option.toList,List.mem_singleton]at hk';have:=HN.out.2 k hk;omega)
    replace hg:=hg.trans hgn;replace hS:=hSn;clear hgn hSn;have hpd:∀k∈instK.foot q,k∉instK.fp (.slice a1 ps.length c1) ps:=fun x hx hx'=>by have:=gp x hx;have:=HF x hx';omega
    obtain⟨fh,fb,fbs,fr,frs,fd,fds⟩:=q;obtain⟨f1,f4,rfl⟩:∃a c,fb=.slice a fbs.length c:=op.1.shape;obtain⟨f2,f5,rfl⟩:∃a c,fr=.slice a frs.length c:=op.2.1.shape;obtain⟨f3,f6,rfl⟩:∃a c,fd=.slice a fds.length c:=op.2.2.shape;clear HF;have hbA:Below w4.heap.size w4 (w4.alloc (.cells #[.bool fh,.slice f1 fbs.length f4,.slice f2 frs.length f5,.slice f3 fds.length f6] 49)):=by go_grown
    have hsz6:=hg.size;have hR2:=hR.below hbA;have op2:=instK.own_out (F:=[]) op (Out.of_below hbA) (fun _ _=>by simp);have hrow0:=hR2.1
    go_wp2_with (at_builtin;refine wpList_append_own_at _ rfl _ _ 24 rfl 0 49 i0 (.agg #[.bool false,.slice none 0 0,.slice none 0 0,.slice none 0 0]) 4 80 Tryz.underlying24 hi0 hz0 hz1 hz2 rfl (by decide) _ ps.length (instK.row ps) rfl hrow0 ⟨w4.heap.size,0,none⟩ 1 1 [.bool fh,.slice f1 fbs.length f4,.slice f2 frs.length f5,.slice f3 fds.length f6] rfl rfl ?c1 ?c2 ?c3 ?c4 ?c5 ?_)
    all_goals try(case c1=>intro j u hj;match j,hj with|0,hj=>simp at hj;subst hj;simp[Addr.add]|1,hj=>simp at hj;subst hj;simp[Addr.add]|2,hj=>simp at hj;subst hj;simp[Addr.add]|3,hj=>simp at hj;subst hj;simp[Addr.add])
    all_goals try(case c2=>intro u hu;simp at hu;rcases hu with rfl|rfl|rfl|rfl<;>rfl)
    all_goals try(case c3=>unfold maxLen;omega)
    all_goals try(case c4=>omega)
    all_goals try(case c5=>first|omega|(simp;omega))
    intro v' w8 hown hgrow hnil hat;obtain⟨hO5,hn5,hlo5,hou⟩:=hR2.snoc (p:=(⟨fh,.slice f1 fbs.length f4,fbs,.slice f2 frs.length f5,frs,.slice f3 fds.length f6,fds⟩:InstQ)) (B:=w.heap.size) HN.out.1 HN.out.2 op2 np hpd (fun x hx=>by have:=gp x hx;omega) (by simp;omega) hown hgrow (by rw[World.size_alloc];exact hat);have HN5:Hid (_∧_):=And.intro hn5 hlo5;have hFlo:∀k∈blk (.slice a1 ps.length c1),w.heap.size≤k:=fun k hk=>HN.out.2 k (by simp only[Kind.fp,List.mem_append];exact Or.inl hk)
    have hg8:=z0g (z0c hg (hbA.mono hsz6)) hou hFlo;have hS8:=(hS.below hbA).out hou (fun hk=>by have:=hFlo b hk;omega) (fun k hk=>by have:=hFlo k hk;omega);have HL5:Hid ((ps++[(⟨fh,.slice f1 fbs.length f4,fbs,.slice f2 frs.length f5,frs,.slice f3 fds.length f6,fds⟩:InstQ)]).length=ps.length+1):=show _=_ by simp
    have HP5:Hid (∀p∈ps++[(⟨fh,.slice f1 fbs.length f4,fbs,.slice f2 frs.length f5,frs,.slice f3 fds.length f6,fds⟩:InstQ)],insF (InstQ.e p)=0):=by
     intro p hp;simp only[List.mem_append,List.mem_singleton]at hp;rcases hp with hp|rfl
     ·exact HP.out p hp
     ·exact hi
    clear hR hR2 op op2 hown hgrow hat hnil hou hbA hg hS hrow0 hn5 hlo5 hFlo hpd gp np;generalize ps++[(⟨fh,.slice f1 fbs.length f4,fbs,.slice f2 frs.length f5,frs,.slice f3 fds.length f6,fds⟩:InstQ)]=ps' at*
    go_wp2
    go_ret;first|exact⟨_,ps',rfl,by have:=HL5.out;omega,by have:=HL5.out;omega,HP5.out,hO5,HN5.out.1,HN5.out.2,hS8.mono (by omega),hg8⟩|exact⟨_,rfl,ps',by have:=HL5.out;omega,by have:=HL5.out;omega,HP5.out,hO5,HN5.out.1,HN5.out.2,hS8.mono (by omega),hg8⟩
   ·have hzi:((ps.length:Int)==0)=false:=beq_eq_false_iff_ne.2 (by omega);have hz4:(ps.length:Int)<4:=by omega
    have hz4':ps.length<4:=by omega
    have hz3:ps.length≤3:=by omega
    have hq1:1≤ps.length:=by omega
    clear hz
    go_wp2_with fail
    refine(z2o B b (T+7801) 2 wr hS (by omega) (by omega)).mono ?_;rintro e w5 ⟨tt,rfl,hSn,hgn⟩;replace hR:=hR.out (Out.of_grown hgn) (fun k hk hk' => by
     simp only[Option.toList,List.mem_singleton]at hk';have:=HN.out.2 k hk;omega)
    replace hg:=hg.trans hgn;replace hS:=hSn;clear hSn hgn
    cases tt with
    |false=>
     go_wp2
     go_ret;first|exact⟨_,ps,rfl,hq1,by omega,HP.out,hR,HN.out.1,HN.out.2,hS.mono (by omega),hg⟩|exact⟨_,rfl,ps,hq1,by omega,HP.out,hR,HN.out.1,HN.out.2,hS.mono (by omega),hg⟩
    |true=>
     go_wp2_with fail
     refine(z14 B b (T+7801+1) 20 w5 hS (by omega) (by omega)).mono ?_;rintro e w4 ⟨q,rfl,hi,op,np,gp,hSn,hgn⟩;have HF:=hR.lt;have hszR:=hg.size;replace hR:=hR.out (Out.of_grown hgn) (fun k hk hk' => by
      simp only[Option.toList,List.mem_singleton]at hk';have:=HN.out.2 k hk;omega)
     replace hg:=hg.trans hgn;replace hS:=hSn;clear hgn hSn;have hpd:∀k∈instK.foot q,k∉instK.fp (.slice a1 ps.length c1) ps:=fun x hx hx'=>by have:=gp x hx;have:=HF x hx';omega
     obtain⟨fh,fb,fbs,fr,frs,fd,fds⟩:=q;obtain⟨f1,f4,rfl⟩:∃a c,fb=.slice a fbs.length c:=op.1.shape;obtain⟨f2,f5,rfl⟩:∃a c,fr=.slice a frs.length c:=op.2.1.shape;obtain⟨f3,f6,rfl⟩:∃a c,fd=.slice a fds.length c:=op.2.2.shape;clear HF;have hbA:Below w4.heap.size w4 (w4.alloc (.cells #[.bool fh,.slice f1 fbs.length f4,.slice f2 frs.length f5,.slice f3 fds.length f6] 49)):=by go_grown
     have hsz6:=hg.size;have hR2:=hR.below hbA;have op2:=instK.own_out (F:=[]) op (Out.of_below hbA) (fun _ _=>by simp);have hrow0:=hR2.1
     go_wp2_with (at_builtin;refine wpList_append_own_at _ rfl _ _ 24 rfl 0 49 i0 (.agg #[.bool false,.slice none 0 0,.slice none 0 0,.slice none 0 0]) 4 80 Tryz.underlying24 hi0 hz0 hz1 hz2 rfl (by decide) _ ps.length (instK.row ps) rfl hrow0 ⟨w4.heap.size,0,none⟩ 1 1 [.bool fh,.slice f1 fbs.length f4,.slice f2 frs.length f5,.slice f3 fds.length f6] rfl rfl ?c1 ?c2 ?c3 ?c4 ?c5 ?_)
     all_goals try(case c1=>intro j u hj;match j,hj with|0,hj=>simp at hj;subst hj;simp[Addr.add]|1,hj=>simp at hj;subst hj;simp[Addr.add]|2,hj=>simp at hj;subst hj;simp[Addr.add]|3,hj=>simp at hj;subst hj;simp[Addr.add])
     all_goals try(case c2=>intro u hu;simp at hu;rcases hu with rfl|rfl|rfl|rfl<;>rfl)
     all_goals try(case c3=>unfold maxLen;omega)
     all_goals try(case c4=>omega)
     all_goals try(case c5=>first|omega|(simp;omega))
     intro v' w8 hown hgrow hnil hat;obtain⟨hO5,hn5,hlo5,hou⟩:=hR2.snoc (p:=(⟨fh,.slice f1 fbs.length f4,fbs,.slice f2 frs.length f5,frs,.slice f3 fds.length f6,fds⟩:InstQ)) (B:=w.heap.size) HN.out.1 HN.out.2 op2 np hpd (fun x hx=>by have:=gp x hx;omega) (by simp;omega) hown hgrow (by rw[World.size_alloc];exact hat);have HN5:Hid (_∧_):=And.intro hn5 hlo5;have hFlo:∀k∈blk (.slice a1 ps.length c1),w.heap.size≤k:=fun k hk=>HN.out.2 k (by simp only[Kind.fp,List.mem_append];exact Or.inl hk)
     have hg8:=z0g (z0c hg (hbA.mono hsz6)) hou hFlo;have hS8:=(hS.below hbA).out hou (fun hk=>by have:=hFlo b hk;omega) (fun k hk=>by have:=hFlo k hk;omega);have HL5:Hid ((ps++[(⟨fh,.slice f1 fbs.length f4,fbs,.slice f2 frs.length f5,frs,.slice f3 fds.length f6,fds⟩:InstQ)]).length=ps.length+1):=show _=_ by simp
     have HP5:Hid (∀p∈ps++[(⟨fh,.slice f1 fbs.length f4,fbs,.slice f2 frs.length f5,frs,.slice f3 fds.length f6,fds⟩:InstQ)],insF (InstQ.e p)=0):=by
      intro p hp;simp only[List.mem_append,List.mem_singleton]at hp;rcases hp with hp|rfl
      ·exact HP.out p hp
      ·exact hi
     clear hR hR2 op op2 hown hgrow hat hnil hou hbA hg hS hrow0 hn5 hlo5 hFlo hpd gp np;generalize ps++[(⟨fh,.slice f1 fbs.length f4,fbs,.slice f2 frs.length f5,frs,.slice f3 fds.length f6,fds⟩:InstQ)]=ps' at*
     go_wp2
     go_ret;first|exact⟨_,ps',rfl,by have:=HL5.out;omega,by have:=HL5.out;omega,HP5.out,hO5,HN5.out.1,HN5.out.2,hS8.mono (by omega),hg8⟩|exact⟨_,rfl,ps',by have:=HL5.out;omega,by have:=HL5.out;omega,HP5.out,hO5,HN5.out.1,HN5.out.2,hS8.mono (by omega),hg8⟩
theorem z2U(B b T:Nat)(w:World)(hS:Src B w b T)(hT:T≤250000):
  Calls Tryz.prog 33 #[.pointer (some ⟨b,0,none⟩)] w fun e w'=>∃ (v:Value) (ps:List InstQ),e=.returned v∧ps.length≤5∧(∀p∈ps,InstQ.n p≤1000)∧instK.Own w' v ps∧(instK.fp v ps).Nodup∧(∀k∈instK.fp v ps,w.heap.size≤k)∧Src B w' b (T+15000)∧w.grownBy w' (some b):=by
 obtain⟨i0,hi0,hz0,hz1,hz2⟩:=info_parts z01;have hlt:=hS.lt;go_enter Tryz.func33,Tryz.ntmps33
 go_wp2_with fail
 refine(z66 B b T w hS (by omega)).mono ?_;rintro e w1 ⟨v,ps,rfl,hp1,hp4,hpi,hR,hnd,hlo,hSn,hg⟩;replace hS:=hSn;have HN:Hid ((instK.fp v ps).Nodup∧∀k∈instK.fp v ps,w.heap.size≤k):=⟨hnd,hlo⟩
 have HP:Hid (∀p∈ps,InstQ.n p≤1000):=fun p hp=>by rw[z0E];have:=z0u (hpi p hp);omega
 clear hSn hnd hlo hpi;obtain⟨a1,c1,rfl⟩:=hR.shape
 go_wp2_with fail
 refine(z0h B b (T+12000) 12 w1 hS (by omega) (by omega)).mono ?_;rintro e wr ⟨r,rfl,hr,hSn,hgn⟩;replace hR:=hR.out (Out.of_grown hgn) (fun k hk hk' => by
  simp only[Option.toList,List.mem_singleton]at hk';have:=HN.out.2 k hk;omega)
 replace hg:=hg.trans hgn;replace hS:=hSn;clear hgn hSn hr;have hsz:=hg.size;by_cases hr0:r=0
 ·subst hr0
  go_wp2_with fail
  refine(z4t B b (T+12000+1) wr hS (by omega)).mono ?_;rintro e w4 ⟨q,rfl,hn,op,np,gp,hSn,hgn⟩;have HF:=hR.lt;replace hR:=hR.out (Out.of_grown hgn) (fun k hk hk' => by
   simp only[Option.toList,List.mem_singleton]at hk';have:=HN.out.2 k hk;omega)
  replace hg:=hg.trans hgn;replace hS:=hSn;clear hgn hSn;have hpd:∀k∈instK.foot q,k∉instK.fp (.slice a1 ps.length c1) ps:=fun x hx hx'=>by have:=gp x hx;have:=HF x hx';omega
  obtain⟨fh,fb,fbs,fr,frs,fd,fds⟩:=q;obtain⟨f1,f4,rfl⟩:∃a c,fb=.slice a fbs.length c:=op.1.shape;obtain⟨f2,f5,rfl⟩:∃a c,fr=.slice a frs.length c:=op.2.1.shape;obtain⟨f3,f6,rfl⟩:∃a c,fd=.slice a fds.length c:=op.2.2.shape;clear HF;have hbA:Below w4.heap.size w4 (w4.alloc (.cells #[.bool fh,.slice f1 fbs.length f4,.slice f2 frs.length f5,.slice f3 fds.length f6] 49)):=by go_grown
  have hsz6:=hg.size;have hR2:=hR.below hbA;have op2:=instK.own_out (F:=[]) op (Out.of_below hbA) (fun _ _=>by simp);have hrow0:=hR2.1
  go_wp2_with (at_builtin;refine wpList_append_own_at _ rfl _ _ 24 rfl 0 49 i0 (.agg #[.bool false,.slice none 0 0,.slice none 0 0,.slice none 0 0]) 4 80 Tryz.underlying24 hi0 hz0 hz1 hz2 rfl (by decide) _ ps.length (instK.row ps) rfl hrow0 ⟨w4.heap.size,0,none⟩ 1 1 [.bool fh,.slice f1 fbs.length f4,.slice f2 frs.length f5,.slice f3 fds.length f6] rfl rfl ?c1 ?c2 ?c3 ?c4 ?c5 ?_)
  all_goals try(case c1=>intro j u hj;match j,hj with|0,hj=>simp at hj;subst hj;simp[Addr.add]|1,hj=>simp at hj;subst hj;simp[Addr.add]|2,hj=>simp at hj;subst hj;simp[Addr.add]|3,hj=>simp at hj;subst hj;simp[Addr.add])
  all_goals try(case c2=>intro u hu;simp at hu;rcases hu with rfl|rfl|rfl|rfl<;>rfl)
  all_goals try(case c3=>unfold maxLen;omega)
  all_goals try(case c4=>omega)
  all_goals try(case c5=>first|omega|(simp;omega))
  intro v' w8 hown hgrow hnil hat;obtain⟨hO5,hn5,hlo5,hou⟩:=hR2.snoc (p:=(⟨fh,.slice f1 fbs.length f4,fbs,.slice f2 frs.length f5,frs,.slice f3 fds.length f6,fds⟩:InstQ)) (B:=w.heap.size) HN.out.1 HN.out.2 op2 np hpd (fun x hx=>by have:=gp x hx;omega) (by simp;omega) hown hgrow (by rw[World.size_alloc];exact hat);have HN5:Hid (_∧_):=And.intro hn5 hlo5;have hFlo:∀k∈blk (.slice a1 ps.length c1),w.heap.size≤k:=fun k hk=>HN.out.2 k (by simp only[Kind.fp,List.mem_append];exact Or.inl hk)
  have hg8:=z0g (z0c hg (hbA.mono hsz6)) hou hFlo;have hS8:=(hS.below hbA).out hou (fun hk=>by have:=hFlo b hk;omega) (fun k hk=>by have:=hFlo k hk;omega);have HL5:Hid ((ps++[(⟨fh,.slice f1 fbs.length f4,fbs,.slice f2 frs.length f5,frs,.slice f3 fds.length f6,fds⟩:InstQ)]).length=ps.length+1):=show _=_ by simp
  have HP5:Hid (∀p∈ps++[(⟨fh,.slice f1 fbs.length f4,fbs,.slice f2 frs.length f5,frs,.slice f3 fds.length f6,fds⟩:InstQ)],InstQ.n p≤1000):=by
   intro p hp;simp only[List.mem_append,List.mem_singleton]at hp;rcases hp with hp|rfl
   ·exact HP.out p hp
   ·exact hn
  clear hR hR2 op op2 hown hgrow hat hnil hou hbA hg hS hrow0 hn5 hlo5 hFlo hpd gp np;generalize ps++[(⟨fh,.slice f1 fbs.length f4,fbs,.slice f2 frs.length f5,frs,.slice f3 fds.length f6,fds⟩:InstQ)]=ps' at*
  go_wp2
  go_ret;first|exact⟨_,ps',rfl,by have:=HL5.out;omega,HP5.out,hO5,HN5.out.1,HN5.out.2,hS8.mono (by omega),hg8⟩|exact⟨_,rfl,ps',by have:=HL5.out;omega,HP5.out,hO5,HN5.out.1,HN5.out.2,hS8.mono (by omega),hg8⟩
 have hr0':(r==0)=false:=by simpa using hr0
 by_cases hr1:r=1
 ·subst hr1;clear hr0 hr0' hR;obtain⟨hn1,hn2⟩:=Kind.own_nil (K:=instK) wr
  go_wp2
  go_ret;have hn3:(instK.fp (.slice none 0 0) ([]:List InstQ)).Nodup:=by rw[hn2];exact List.nodup_nil
  have hn4:∀k∈instK.fp (.slice none 0 0) ([]:List InstQ),w.heap.size≤k:=by rw[hn2];intro k hk;simp at hk
  exact⟨.slice none 0 0,[],rfl,Nat.zero_le _,fun p hp=>by simp at hp,hn1,hn3,hn4,hS.mono (by omega),hg⟩
 have hr1':(r==1)=false:=by simpa using hr1
 by_cases hr2:r=2
 ·subst hr2;clear hr0 hr0' hr1 hr1';obtain⟨g,rfl⟩:=hR.blkOf (by omega)
  go_wp2_with fail
  refine(z4t B b (T+12000+1) wr hS (by omega)).mono ?_;rintro e w4 ⟨q,rfl,hn,op,np,gp,hSn,hgn⟩;have HF:=hR.lt;have hsz0:=hgn.size;replace hR:=hR.out (Out.of_grown hgn) (fun k hk hk' => by
   simp only[Option.toList,List.mem_singleton]at hk';have:=HN.out.2 k hk;omega)
  replace hg:=hg.trans hgn;replace hS:=hSn;clear hgn hSn;have hlt0:0<ps.length:=by omega
  have hdis:∀k∈instK.foot q,k∉instK.fp (.slice (some ⟨g,0,none⟩) ps.length c1) ps:=fun x hx hx'=>by have:=gp x hx;have:=HF x hx';omega
  have hg0:g∈instK.fp (.slice (some ⟨g,0,none⟩) ps.length c1) ps:=by simp[Kind.fp,blk,Value.ownBlock]
  have hgl:=HN.out.2 g hg0;have HNS:Hid ((instK.fp (.slice (some ⟨g,0,none⟩) ps.length c1) (ps.set 0 q)).Nodup∧∀k∈instK.fp (.slice (some ⟨g,0,none⟩) ps.length c1) (ps.set 0 q),w.heap.size≤k):=by
   refine⟨z70 HN.out.1 0 hlt0 q np hdis,fun k hk=>?_⟩;simp only[Kind.fp,List.mem_append]at hk;rcases hk with hk|hk
   ·exact HN.out.2 k (by simp only[Kind.fp,List.mem_append];exact Or.inl hk)
   ·rcases z5g hlt0 hk with hk|hk
    ·exact HN.out.2 k (by simp only[Kind.fp,List.mem_append];exact Or.inr hk)
    ·have:=gp k hk;omega
  have hgq:∀q'∈ps,∀k∈instK.foot q',k≠g:=fun q' hq' k hk e=>by
   have h1:=HN.out.1;simp only[Kind.fp,blk,Value.ownBlock,Option.toList,List.cons_append,List.nil_append,List.nodup_cons]at h1;exact h1.1 (List.mem_flatMap.2 ⟨q',hq',e▸hk⟩)
  have hgp:∀k∈instK.foot q,k≠g:=fun k hk e=>hdis k hk (e▸hg0)
  have HP5:Hid (∀p∈ps.set 0 q,InstQ.n p≤1000):=by
   intro p hp;rcases List.mem_or_eq_of_mem_set hp with hp|rfl
   ·exact HP.out p hp
   ·exact hn
  obtain⟨fh,fb,fbs,fr,frs,fd,fds⟩:=q;obtain⟨f1,f4,rfl⟩:∃a c,fb=.slice a fbs.length c:=op.1.shape;obtain⟨f2,f5,rfl⟩:∃a c,fr=.slice a frs.length c:=op.2.1.shape;obtain⟨f3,f6,rfl⟩:∃a c,fd=.slice a fds.length c:=op.2.2.shape;obtain⟨d0,f0'⟩:=hR.cell 0 hlt0 0 (.bool ps[0].has) rfl;obtain⟨d1,f1'⟩:=hR.cell 0 hlt0 1 ps[0].vb rfl;obtain⟨d2,f2'⟩:=hR.cell 0 hlt0 2 ps[0].vr rfl;obtain⟨d3,f3'⟩:=hR.cell 0 hlt0 3 ps[0].vd rfl;have hkk:∀j,0*instK.size+j=j:=fun j=>by omega
  rw[hkk]at d0 f0' d1 f1' d2 f2' d3 f3';have hrow:=z5K hR.1 0 [.bool fh,.slice f1 fbs.length f4,.slice f2 frs.length f5,.slice f3 fds.length f6];have hou:Out [g] w4 ((((w4.setCell ⟨g,0,none⟩ (.bool fh)).setCell ⟨g,1,none⟩ (.slice f1 fbs.length f4)).setCell ⟨g,2,none⟩ (.slice f2 frs.length f5)).setCell ⟨g,3,none⟩ (.slice f3 fds.length f6)):=((Out.setCell _ _ _ _).trans (Out.setCell _ _ _ _)).trans (Out.setCell _ _ _ _)|>.trans (Out.setCell _ _ _ _);have hput:=hR.put (w':=((((w4.setCell ⟨g,0,none⟩ (.bool fh)).setCell ⟨g,1,none⟩ (.slice f1 fbs.length f4)).setCell ⟨g,2,none⟩ (.slice f2 frs.length f5)).setCell ⟨g,3,none⟩ (.slice f3 fds.length f6))) 0 hlt0 (⟨fh,.slice f1 fbs.length f4,fbs,.slice f2 frs.length f5,frs,.slice f3 fds.length f6,fds⟩:InstQ) (by simp[List.zipIdx_cons]at hrow;rw[Nat.zero_mul];exact hrow) hou hgq op hgp;have hFlo:∀k∈[g],w.heap.size≤k:=fun k hk=>by simp only[List.mem_singleton]at hk;omega
  have HS8:Hid (Src B ((((w4.setCell ⟨g,0,none⟩ (.bool fh)).setCell ⟨g,1,none⟩ (.slice f1 fbs.length f4)).setCell ⟨g,2,none⟩ (.slice f2 frs.length f5)).setCell ⟨g,3,none⟩ (.slice f3 fds.length f6)) b (T+12000+1+2600)):=((hS.out hou (fun hk=>by have:=hFlo b hk;omega) (fun k hk=>by have:=hFlo k hk;omega)).mono (by omega))
  have HG8:Hid (w.grownBy ((((w4.setCell ⟨g,0,none⟩ (.bool fh)).setCell ⟨g,1,none⟩ (.slice f1 fbs.length f4)).setCell ⟨g,2,none⟩ (.slice f2 frs.length f5)).setCell ⟨g,3,none⟩ (.slice f3 fds.length f6)) (some b)):=z0g hg hou hFlo;have HPU:Hid (instK.Own ((((w4.setCell ⟨g,0,none⟩ (.bool fh)).setCell ⟨g,1,none⟩ (.slice f1 fbs.length f4)).setCell ⟨g,2,none⟩ (.slice f2 frs.length f5)).setCell ⟨g,3,none⟩ (.slice f3 fds.length f6)) (.slice (some ⟨g,0,none⟩) ps.length c1) (ps.set 0 (⟨fh,.slice f1 fbs.length f4,fbs,.slice f2 frs.length f5,frs,.slice f3 fds.length f6,fds⟩:InstQ))):=hput;have HLE:Hid ((ps.set 0 (⟨fh,.slice f1 fbs.length f4,fbs,.slice f2 frs.length f5,frs,.slice f3 fds.length f6,fds⟩:InstQ)).length=ps.length):=show _=_ by simp
  clear hrow hR HN HF hgq hgp hdis np gp op hg hS hput hou hFlo hg0 HP;generalize ps.set 0 (⟨fh,.slice f1 fbs.length f4,fbs,.slice f2 frs.length f5,frs,.slice f3 fds.length f6,fds⟩:InstQ)=ps' at*
  go_wp2
  go_ret;first|exact⟨_,ps',rfl,by have:=HLE.out;omega,HP5.out,HPU.out,HNS.out.1,HNS.out.2,HS8.out.mono (by omega),HG8.out⟩|exact⟨_,rfl,ps',by have:=HLE.out;omega,HP5.out,HPU.out,HNS.out.1,HNS.out.2,HS8.out.mono (by omega),HG8.out⟩
 have hr2':(r==2)=false:=by simpa using hr2
 clear hr0 hr1 hr2
 go_wp2
 go_ret;first|exact⟨_,ps,rfl,by omega,HP.out,hR,HN.out.1,HN.out.2,hS.mono (by omega),hg⟩|exact⟨_,rfl,ps,by omega,HP.out,hR,HN.out.1,HN.out.2,hS.mono (by omega),hg⟩
theorem z2V(a:Option Addr)(cap:Nat)(zs:List Int)(w:World)(h:Row .u8 w a zs)(hu:∀i,0≤zs.getD i 0∧zs.getD i 0≤255)(hl:zs.length≤1048576):
  Calls Tryz.prog 8 #[.slice a zs.length cap] w fun e w'=>∃ (v:Value) (ps:List InstQ),e=.returned v∧ps.length≤5∧(∀p∈ps,InstQ.n p≤1000)∧instK.Own w' v ps∧Below w.heap.size w w':=by
 have hby:∀i,i<zs.length→∃b' off,a=some ⟨b',off,none⟩∧b'<w.heap.size∧w.cell? ⟨b',off+i,none⟩=some (.int .u8 (zs.getD i 0)):=h;go_enter Tryz.func8,Tryz.ntmps8
 go_wp2_with fail
 refine(z13 w.heap.size a cap zs w (Nat.le_refl _) hl hu hby).mono ?_;rintro e x1 ⟨rfl,hS,hb1⟩;have hb0:Below w.heap.size w x1:=hb1;clear hby hb1 h hu hl
 go_wp2_with fail
 refine(z2U w.heap.size w.heap.size 0 x1 hS (by omega)).mono ?_;rintro e x2 ⟨v,ps,rfl,h5,hpn,hO,hnd,hlo,hSn,hgn⟩;have hx1:=hS.lt;have hU:Out [w.heap.size] x1 x2:=Out.of_grown hgn;have hs2:=hgn.size;replace hb0:=Out.keep hb0 hU hb0.size (fun k hk=>by simp only[List.mem_singleton]at hk;omega);replace hS:=hSn;have HPN:Hid (ps.length≤5∧∀p∈ps,InstQ.n p≤1000):=⟨h5,hpn⟩
 have HLO:Hid (∀k∈instK.fp v ps,w.heap.size<k):=fun k hk=>by have:=hlo k hk;omega
 clear hSn hgn hU hpn hnd hlo;obtain⟨va,vc,rfl⟩:=hO.shape
 go_wp2
 go_ret;first|exact⟨_,ps,rfl,HPN.out.1,HPN.out.2,hO,hb0⟩|exact⟨_,rfl,ps,HPN.out.1,HPN.out.2,hO,hb0⟩
theorem z2a(a:Option Addr)(cap:Nat)(zs:List Int)(w:World)(h:Row .u8 w a zs)(hu:∀i,0≤zs.getD i 0∧zs.getD i 0≤255)(hl:zs.length≤1048576):
  Calls Tryz.prog 9 #[.slice a zs.length cap] w fun e w'=>∃ (v:Value) (ps:List InstQ),e=.returned v∧ps.length≤5∧(∀p∈ps,InstQ.n p≤1000)∧instK.Own w' v ps∧Below w.heap.size w w':=by
 have hby:∀i,i<zs.length→∃b' off,a=some ⟨b',off,none⟩∧b'<w.heap.size∧w.cell? ⟨b',off+i,none⟩=some (.int .u8 (zs.getD i 0)):=h;go_enter Tryz.func9,Tryz.ntmps9
 go_wp2_with fail
 refine(z13 w.heap.size a cap zs w (Nat.le_refl _) hl hu hby).mono ?_;rintro e x1 ⟨rfl,hS,hb1⟩;have hb0:Below w.heap.size w x1:=hb1;clear hby hb1 h hu hl
 go_wp2_with fail
 refine(z2U w.heap.size w.heap.size 0 x1 hS (by omega)).mono ?_;rintro e x2 ⟨v,ps,rfl,h5,hpn,hO,hnd,hlo,hSn,hgn⟩;have hx1:=hS.lt;have hU:Out [w.heap.size] x1 x2:=Out.of_grown hgn;have hs2:=hgn.size;replace hb0:=Out.keep hb0 hU hb0.size (fun k hk=>by simp only[List.mem_singleton]at hk;omega);replace hS:=hSn;have HPN:Hid (ps.length≤5∧∀p∈ps,InstQ.n p≤1000):=⟨h5,hpn⟩
 have HLO:Hid (∀k∈instK.fp v ps,w.heap.size<k):=fun k hk=>by have:=hlo k hk;omega
 clear hSn hgn hU hpn hnd hlo;obtain⟨va,vc,rfl⟩:=hO.shape
 go_wp2
 go_ret;first|exact⟨_,ps,rfl,HPN.out.1,HPN.out.2,hO,hb0⟩|exact⟨_,rfl,ps,HPN.out.1,HPN.out.2,hO,hb0⟩
theorem z2A(a:Option Addr)(cap:Nat)(zs:List Int)(w:World)(h:Row .u8 w a zs)(hu:∀i,0≤zs.getD i 0∧zs.getD i 0≤255)(hl:zs.length≤1048576):
  Calls Tryz.prog 6 #[.slice a zs.length cap] w fun e w'=>∃ (v:Value) (ps:List InstQ) (n:Int),e=.returned (.tuple #[v,.int .i64 n])∧ps.length≤5∧(∀p∈ps,InstQ.n p≤1000)∧instK.Own w' v ps∧Below w.heap.size w w':=by
 have hby:∀i,i<zs.length→∃b' off,a=some ⟨b',off,none⟩∧b'<w.heap.size∧w.cell? ⟨b',off+i,none⟩=some (.int .u8 (zs.getD i 0)):=h;go_enter Tryz.func6,Tryz.ntmps6
 go_wp2_with fail
 refine(z13 w.heap.size a cap zs w (Nat.le_refl _) hl hu hby).mono ?_;rintro e x1 ⟨rfl,hS,hb1⟩;have hb0:Below w.heap.size w x1:=hb1;clear hby hb1 h hu hl
 go_wp2_with fail
 refine(z2U w.heap.size w.heap.size 0 x1 hS (by omega)).mono ?_;rintro e x2 ⟨v,ps,rfl,h5,hpn,hO,hnd,hlo,hSn,hgn⟩;have hx1:=hS.lt;have hU:Out [w.heap.size] x1 x2:=Out.of_grown hgn;have hs2:=hgn.size;replace hb0:=Out.keep hb0 hU hb0.size (fun k hk=>by simp only[List.mem_singleton]at hk;omega);replace hS:=hSn;have HPN:Hid (ps.length≤5∧∀p∈ps,InstQ.n p≤1000):=⟨h5,hpn⟩
 have HLO:Hid (∀k∈instK.fp v ps,w.heap.size<k):=fun k hk=>by have:=hlo k hk;omega
 clear hSn hgn hU hpn hnd hlo;obtain⟨va,vc,rfl⟩:=hO.shape;have hl5:(ps.length:Int)≤5:=by omega
 go_wp2_with fail
 refine(z0h w.heap.size w.heap.size (0+15000) ((ps.length:Int)+2) x2 hS (by omega) (by omega)).mono ?_;rintro e x3 ⟨r,rfl,hr,hSn,hgn⟩;obtain⟨j0,rfl⟩:=Int.eq_ofNat_of_zero_le hr.1;have hj0:j0≤6:=by have:=hr.2.1 (by omega);omega
 have hU:Out [w.heap.size] x2 x3:=Out.of_grown hgn;replace hb0:=Out.keep hb0 hU hb0.size (fun k hk=>by simp only[List.mem_singleton]at hk;omega);replace hO:=hO.out hU (fun k hk hk'=>by simp only[List.mem_singleton]at hk';have:=HLO.out k hk;omega);replace hS:=hSn;clear hSn hgn hU hr
 go_wp2_with fail
 refine(z0h w.heap.size w.heap.size (0+15000+1) 9 x3 hS (by omega) (by omega)).mono ?_;rintro e x4 ⟨r,rfl,hr,hSn,hgn⟩;obtain⟨j1,rfl⟩:=Int.eq_ofNat_of_zero_le hr.1;have hj1:j1≤8:=by have:=hr.2.1 (by omega);omega
 have hU:Out [w.heap.size] x3 x4:=Out.of_grown hgn;replace hb0:=Out.keep hb0 hU hb0.size (fun k hk=>by simp only[List.mem_singleton]at hk;omega);replace hO:=hO.out hU (fun k hk hk'=>by simp only[List.mem_singleton]at hk';have:=HLO.out k hk;omega);replace hS:=hSn;clear hSn hgn hU hr;clear hS HLO;have hj0i:(j0:Int)≤6:=by omega
 have hj1i:(j1:Int)≤8:=by omega
 go_wp2
 exact bodyPost_ret (by simp[results,Tryz.results6,go_sem];rfl) rfl ⟨_,ps,_,rfl,HPN.out.1,HPN.out.2,hO,hb0⟩
section
variable {P:Type} {K:Kind P} {w w':World} {a:Option Addr} {n cap:Nat} {ps:List P}
theorem Kind.At.takeK(h:K.At w (.slice a n cap) ps)(m:Nat)(hm:m≤ps.length):K.At w (.slice a m cap) (ps.take m):=by
 obtain⟨a',c,e,hl,hr⟩:=h;simp only[Value.slice.injEq]at e;obtain⟨rfl,_,rfl⟩:=e;refine⟨a,cap,by rw[List.length_take,Nat.min_eq_left hm],?_,fun p hp=>hr p (List.mem_of_mem_take hp)⟩;have er:K.row ps=K.row (ps.take m)++K.row (ps.drop m):=by
  unfold Kind.row;rw[←List.flatMap_append,List.take_append_drop]
 rcases hl with h0|⟨b,off,ha,hlt,hc⟩
 ·left;rw[er]at h0;exact(List.append_eq_nil_iff.1 h0).1
 ·right;refine⟨b,off,ha,hlt,fun j x hx=>hc j x ?_⟩;rw[er,List.getElem?_append_left (List.getElem?_eq_some_iff.1 hx).1];exact hx
theorem Kind.Own.capK(h:K.Own w (.slice a n cap) ps):n≤cap∧cap≤maxLen:=by
 rcases h.1.2 with⟨e,_⟩|⟨g,c,cur,e,_,_,h1,h2,_⟩
 ·simp only[Value.slice.injEq]at e;obtain⟨_,rfl,rfl⟩:=e;exact⟨Nat.le_refl _,by decide⟩
 ·simp only[Value.slice.injEq]at e;obtain⟨_,rfl,rfl⟩:=e;exact⟨h1,h2⟩
theorem Kind.At.nilA(w:World)(a:Option Addr)(c':Nat):K.At w (.slice a 0 c') ([]:List P):=⟨a,c',rfl,Or.inl rfl,fun p hp=>by simp at hp⟩
theorem Kind.At.dropS(h:K.At w (.slice a n cap) ps)(m:Nat)(hm:m≤ps.length)(hcap:ps.length≤cap)(c':Nat):K.At w (.slice (if cap=m then a else a.map (·.add (m*K.size))) (ps.drop m).length c') (ps.drop m):=by
 by_cases hc:cap=m
 ·have hp:ps.drop m=[]:=List.drop_of_length_le (by omega);rw[if_pos hc,hp];exact Kind.At.nilA w a c'
 ·rw[if_neg hc]
  cases a with
  |none=>
   obtain⟨a',c,e,hl,hr⟩:=h;simp only[Value.slice.injEq]at e;obtain⟨rfl,_,rfl⟩:=e;rcases hl with h0|⟨b',off',ha,_⟩
   ·refine⟨none,c',rfl,Or.inl ?_,fun p hp=>hr p (List.mem_of_mem_drop hp)⟩;have er:K.row ps=K.row (ps.take m)++K.row (ps.drop m):=by
     unfold Kind.row;rw[←List.flatMap_append,List.take_append_drop]
    rw[er]at h0;exact(List.append_eq_nil_iff.1 h0).2
   ·simp at ha
  |some x=>
   obtain⟨a',c,e,hl,hr⟩:=h;simp only[Value.slice.injEq]at e;obtain⟨rfl,_,rfl⟩:=e;refine⟨_,c',rfl,?_,fun p hp=>hr p (List.mem_of_mem_drop hp)⟩;have er:K.row ps=K.row (ps.take m)++K.row (ps.drop m):=by
    unfold Kind.row;rw[←List.flatMap_append,List.take_append_drop]
   have hlen:(K.row (ps.take m)).length=m*K.size:=by rw[Kind.row_length,List.length_take,Nat.min_eq_left hm]
   rcases hl with h0|⟨b',off',ha,hlt,hc⟩
   ·left;rw[er]at h0;exact(List.append_eq_nil_iff.1 h0).2
   ·right;simp only[Option.some.injEq]at ha;subst ha;refine⟨b',off'+m*K.size,by simp[Addr.add],hlt,fun j y hy=>?_⟩;have h2:=hc (m*K.size+j) y (by rw[er,List.getElem?_append_right (by omega),hlen,show m*K.size+j-m*K.size=j by omega];exact hy);rw[←Nat.add_assoc]at h2;exact h2
theorem Kind.at_of_row{v:Value}{base e:Nat}(h:w.ownsRow base e K.size v ps.length (K.row ps))(hr:∀p∈ps,K.rd w p):K.At w v ps:=by
 obtain⟨a,c,rfl⟩:=z0l h;exact⟨a,c,rfl,Lies.own h,hr⟩
end
def z6a:Value→Prop
 | .slice _ n c=>n≤c∧c≤maxLen
 |_=>False
theorem Kind.Own.capOk{P:Type}{K:Kind P}{w:World}{v:Value}{ps:List P}(h:K.Own w v ps):z6a v:=by
 obtain⟨a,c,rfl⟩:=h.shape;exact h.capK
end Go.Proofs.YtfpponhjhbfbeaaGreatDoor

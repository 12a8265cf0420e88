import Derived.Test.YtjjoahhnkpjolaaGreatDoorONAT
import Derived.WideKeyEntry
set_option linter.unusedVariables false
set_option linter.unusedSimpArgs false
set_option maxRecDepth 100000
set_option maxHeartbeats 8000000
namespace Go.Proofs.YtjjoahhnkpjolaaGreatDoor
open Go.RowKit Go.BigFrame
open InstQ renaming e->g
open RoundQ renaming e->f
open Value renaming slice->Q
open Go.Proofs.Tryz renaming prog->o
open Go.Proofs.Tryz
theorem z2q(v:Value)(zs:List Int)(w:World)(h:intK.At w v zs)(h0:0<zs.length)(hl:zs.length≤1048576):
  Calls o 145 #[v] w fun e w'=>∃a c,e=.returned (Q a zs.length c)∧intK.Own w' (Q a zs.length c) zs∧(∀k∈intK.fp (Q a zs.length c) zs,w.heap.size≤k)∧Below w.heap.size w w':=by
 obtain⟨a,cap,rfl⟩:=h.shape;have hR:=(z0P h).2;obtain⟨b,off,rfl,_⟩:=hR 0 h0;refine(z6J b off cap zs w hR h0 hl).mono ?_;rintro e w2 ⟨a2,c2,rfl,ho,hb⟩;obtain⟨O,G⟩:=z5g rfl ho;exact⟨a2,c2,rfl,O,G,hb⟩
theorem z5R(v:Value)(ps:List RoundQ)(w:World)(h:roundK.At w v ps)(ar:∀p∈ps,0<p.rep.length∧0<p.pro.length)(hl:ps.length+nmL RoundQ.n ps≤1048576):
  Calls o 144 #[v] w fun e w'=>∃v' qs,e=.returned v'∧qs.map f=ps.map f∧roundK.Own w' v' qs∧(roundK.fp v' qs).Nodup∧(∀k∈roundK.fp v' qs,w.heap.size≤k)∧Below w.heap.size w w':=by
 obtain⟨a,cap,rfl⟩:=h.shape;obtain⟨i0,hi,az,aA,aB⟩:=info_parts z3P;obtain⟨ah,ai⟩:=Kind.own_nil (K:=roundK) w;have ab:Hid ((roundK.fp (Q none 0 0) ([]:List RoundQ)).Nodup∧∀k∈roundK.fp (Q none 0 0) ([]:List RoundQ),w.heap.size≤k):=by
  rw[ai];exact⟨by simp,by simp⟩
 clear ai;go_enter func144,ntmps144
 go_wp2
 go_loopw[3,8] (fun v j wr=>∃ (k:Nat) (qs:List RoundQ),k≤ps.length∧j=.int .i64 k∧Hid (qs.map f=(ps.take k).map f)∧roundK.Own wr v qs∧Hid ((roundK.fp v qs).Nodup∧∀k∈roundK.fp v qs,w.heap.size≤k)∧Below w.heap.size w wr) (fun _ j _=>ps.length-(intOf j).toNat)
 case atStart=>exact⟨0,[],Nat.zero_le _,rfl,(rfl:_=_),ah,ab,Below.refl _ _⟩
 case round=>
  clear ab ah;obtain⟨k,qs,hk,rfl,HE,hO,HN,hb⟩:=hrel;obtain⟨sa,sc,rfl⟩:=hO.shape;have ae:Hid (qs.length=k):=by
   have:=congrArg List.length HE.out;rw[List.length_map,List.length_map,List.length_take]at this;show qs.length=k;omega
  by_cases L:k<ps.length
  ·obtain⟨b,aC,rfl,aE,hc,aw⟩:=(h.below hb).cell (by decide) k L;have Y:∀j x,(roundK.cells ps[k])[j]?=some x→wr.cell? ⟨b,aC+k*2+j,none⟩=some x:=hc;have c0:=Y 0 (ps[k].vr) rfl;have c1:=Y 1 (ps[k].vp) rfl;have al:=z01 RoundQ.n ps k L;have C:=ar _ (List.getElem_mem L);have ad:Hid (∀p':RoundQ,p'.e=f ps[k]→(qs++[p']).map f=(ps.take (k+1)).map f):=fun p' av=>by
    rw[List.take_succ_eq_append_getElem L,List.map_append,List.map_append,HE.out,List.map_singleton,List.map_singleton,av]
   clear hc Y;generalize ps[k]=p at*;obtain⟨vr,rp,vp,pp⟩:=p;obtain⟨r1,r2⟩:intK.At wr vr rp∧intK.At wr vp pp:=aw;replace al:rp.length+pp.length≤nmL RoundQ.n ps:=al;obtain⟨ra,rk,rfl⟩:=r1.shape;obtain⟨pa,pk,rfl⟩:=r2.shape;dsimp only at c0 c1 C;have c:Below wr.heap.size wr (wr.alloc (.cells #[Q ra rp.length rk,Q pa pp.length pk] 171)):=by go_grown
   have E:=Blk.new wr 171 #[Q ra rp.length rk,Q pa pp.length pk];have HF:Hid (∀x∈roundK.fp (Q sa qs.length sc) qs,x<wr.heap.size):=hO.lt;rw[Nat.add_zero]at c0;replace hO:=hO.below c;have r3:=r1.below c;have r4:=r2.below c;have I:=hb.trans (c.mono hb.size);have M:=fun w h=>z2q (Q ra rp.length rk) rp w h C.1 (by omega)
   have N:=fun w h=>z2q (Q pa pp.length pk) pp w h C.2 (by omega)
   clear HE
   go_wp2_with fail
   clear c0 c1 r1 r2 hb;generalize wr.alloc (.cells #[Q ra rp.length rk,Q pa pp.length pk] 171)=W3 at*;clear c;have hF:wr.heap.size∉blk (Q sa qs.length sc):=fun hx=>by
    have:=HF.out _ (by simp only[Kind.fp,List.mem_append];exact Or.inl hx);omega
   have p0:=z0l (F:=blk (Q sa qs.length sc)) (E.cell 0 _ rfl) hF;have p1:=z0l (F:=blk (Q sa qs.length sc)) (E.cell 1 _ rfl) hF;have au:Nonempty (LatO (blk (Q sa qs.length sc)) W3):=⟨⟨W3,Out.refl _ _⟩⟩
   have hW:Below W3.heap.size W3 W3.drew:=(Below.refl _ _).drew;have z:∀w',Below W3.heap.size W3 w'→∃u:LatO (blk (Q sa qs.length sc)) W3,w'=u.val:=fun w' ax=>⟨⟨w',Out.of_below ax⟩,rfl⟩
   refine z0d (S:=fun w'=>∃u:LatO (blk (Q sa qs.length sc)) W3,w'=u.val) (by kernel_rfl) ?_;refine sgr [(0,3),(4,2)] 6 (by kernel_rfl) (z _ hW) ?_;simp only[pkE];repeat go_big_quiet_step (fail)
   refine wpQuiet_nil ?_;refine cla 3 (some 15) 145 #[Q ra rp.length rk] 5 (by kernel_rfl) ?_;refine(M _ (r3.below hW)).mono ?_;rintro e w8 ⟨a1,c1,rfl,o1,g1,ag⟩;have L1:∀x∈intK.fp (Q a1 rp.length c1) rp,W3.heap.size≤x:=fun x hx=>by have:=g1 x hx;have:=hW.size;omega
   have M1:=o1.lt;replace hW:=hW.trans (ag.mono hW.size);clear ag g1;refine⟨_,rfl,z _ hW,?_⟩;simp only[Act.put,pjE];refine cla 6 (some 18) 145 #[Q pa pp.length pk] 4 (by kernel_rfl) ?_;refine(N _ (r4.below hW)).mono ?_;rintro e w9 ⟨a2,c2,rfl,o2,g2,d⟩;have L2:∀x∈intK.fp (Q a2 pp.length c2) pp,W3.heap.size≤x:=fun x hx=>by have:=g2 x hx;have:=hW.size;omega
   have O:∀x∈intK.fp (Q a1 rp.length c1) rp,∀y∈intK.fp (Q a2 pp.length c2) pp,x≠y:=fun x hx y hy e=>by have:=M1 x hx;have:=g2 y hy;omega
   replace hW:=hW.trans (d.mono hW.size);replace o1:=o1.below d;clear d g2 M1 M N r3 r4;refine⟨_,rfl,z _ hW,?_⟩;simp only[Act.put,pjE];refine qta 7 (some 19) (.agg #[Q a1 rp.length c1,Q a2 pp.length c2]) 3 (by kernel_rfl) (fun u _=>by kernel_rfl) (z _ hW) ?_;simp only[Act.put,pjE];refine ona 8 2 rfl (by kernel_rfl) ?_;have J:Below w9.heap.size w9 (w9.alloc (.cells #[Q a1 rp.length c1,Q a2 pp.length c2] 171)):=by go_grown
   replace hW:=hW.trans (J.mono hW.size);replace o1:=o1.below J;replace o2:=o2.below J;have V:∀j u,[Value.slice a1 rp.length c1,Q a2 pp.length c2][j]?=some u→(w9.alloc (.cells #[Q a1 rp.length c1,Q a2 pp.length c2] 171)).cell? ((⟨w9.heap.size,0,none⟩:Addr).add j)=some u:=by
    intro j u hj;match j,hj with|0,hj=>simp at hj;subst hj;simp[Addr.add]|1,hj=>simp at hj;subst hj;simp[Addr.add]
   go_wp2
   refine ThenGo.to ⟨z _ hW,?_⟩;generalize w9.alloc (.cells #[Q a1 rp.length c1,Q a2 pp.length c2] 171)=Z at*;clear J;have W:=hO.below hW;have d:=I.trans (hW.mono I.size);have D:=W.1;refine ona 9 1 rfl (by kernel_rfl) ?_;refine wpList_append_own_at _ rfl _ _ 87 rfl 0 171 i0 (.agg #[Q none 0 0,Q none 0 0]) 2 48 Tryz.underlying87 hi az aA aB rfl (by decide) _ qs.length (roundK.row qs) rfl D ⟨w9.heap.size,0,none⟩ 1 1 [Q a1 rp.length c1,Q a2 pp.length c2] rfl rfl V ?c2 ?c3 ?c4 ?c5 ?_
   case c2=>intro u hu;simp at hu;rcases hu with rfl|rfl<;>rfl
   case c3=>have:=ae.out;unfold maxLen;omega
   case c4=>have:=ae.out;omega
   case c5=>omega
   intro v' w5 U A ak af;clear ak D V;have aD:wr.heap.size≤W3.heap.size:=by have:=E.lt;omega
   obtain ⟨ao,aj,T,aa⟩:=W.snoc (p:=⟨Q a1 rp.length c1,rp,Q a2 pp.length c2,pp⟩) HN.out.1 HN.out.2 ⟨o1,o2⟩ (List.nodup_append.2 ⟨z0L _ _,z0L _ _,O⟩) (fun x hx ay => by
    have:=HF.out x ay;rcases List.mem_append.1 hx with hx|hx
    ·have:=L1 x hx;omega
    ·have:=L2 x hx;omega) (fun x hx=>by
    have:=I.size;rcases List.mem_append.1 hx with hx|hx
    ·have:=L1 x hx;omega
    ·have:=L2 x hx;omega) d.size U A af
   have ap:Below w.heap.size w w5:=Out.keep d aa d.size (fun x hx=>HN.out.2 x (by simp only[Kind.fp,List.mem_append];exact Or.inl hx));have X:Out (blk (Q sa qs.length sc)) W3 w5:=(Out.of_below hW).trans aa;have am:Hid ((qs++[(⟨Q a1 rp.length c1,rp,Q a2 pp.length c2,pp⟩:RoundQ)]).map f=(ps.take (k+1)).map f):=ad.out _ rfl;have an:Hid ((roundK.fp v' (qs++[(⟨Q a1 rp.length c1,rp,Q a2 pp.length c2,pp⟩:RoundQ)])).Nodup∧∀k∈roundK.fp v' (qs++[(⟨Q a1 rp.length c1,rp,Q a2 pp.length c2,pp⟩:RoundQ)]),w.heap.size≤k):=⟨aj,T⟩
   clear aj T aa ad HN HF o1 o2 L1 L2 O U A af W hO d I
   go_wp2
   refine ThenGo.to ⟨⟨⟨_,X⟩,rfl⟩,?_⟩;simp only[Act.put,pgE,pjE];refine sgr [(10,1)] 0 (by kernel_rfl) ⟨⟨_,X⟩,rfl⟩ ?_;simp only[pkE];repeat go_big_quiet_step (fail)
   refine wpQuiet_nil ?_;refine z0h (by kernel_rfl) ?_;clear p0 p1 au hW X z E hF
   go_wp2
   go_roundw
   case rel=>exact⟨k+1,_,by omega,by go_num,am,ao,an,ap⟩
   case measure=>simp[intOf];omega
  ·have aq:k=ps.length:=by omega
   subst aq;have hE:=HE.out;rw[List.take_length]at hE;clear HE
   go_wp2
   go_ret;exact⟨_,qs,rfl,hE,hO,HN.out.1,HN.out.2,hb⟩
theorem z4A(p:InstQ)(w:World)(h:instK.rd w p)(hl:p.n≤1048576)(N:∀t∈p.batch,0<t.acts.length)(O:∀r∈p.rounds,0<r.rep.length∧0<r.pro.length)(M:0<p.dec.length):
  Calls o 96 #[.agg #[.bool p.has,p.vb,p.vr,p.vd]] w fun e w'=>∃q:InstQ,e=.returned (.agg #[.bool q.has,q.vb,q.vr,q.vd])∧q.e=p.e∧instK.own w' q∧(instK.foot q).Nodup∧(∀k∈instK.foot q,w.heap.size≤k)∧Below w.heap.size w w':=by
 obtain⟨has,vb,d,vr,c,vd,dec⟩:=p;obtain⟨h1,h2,h3⟩:txnK.At w vb d∧roundK.At w vr c∧intK.At w vd dec:=h;dsimp only[InstQ.n]at hl N O M;have I:=fun w hT=>z1q vb d w hT N (by omega)
 have J:=fun w hT=>z5R vr c w hT O (by omega)
 have L:=fun w hT=>z2q vd dec w hT M (by omega)
 obtain⟨ba,bk,rfl⟩:=h1.shape;obtain⟨va,vk,rfl⟩:=h2.shape;obtain⟨da,dk,rfl⟩:=h3.shape;have z:Below w.heap.size w ((w.alloc (.cells #[.bool has,Q ba d.length bk,Q va c.length vk,Q da dec.length dk] 89)).alloc (.cells #[.bool false,Q none 0 0,Q none 0 0,Q none 0 0] 89)):=by go_grown
 have B:=(Blk.new w 89 #[.bool has,Q ba d.length bk,Q va c.length vk,Q da dec.length dk]).below (w':=((w.alloc (.cells #[.bool has,Q ba d.length bk,Q va c.length vk,Q da dec.length dk] 89)).alloc (.cells #[.bool false,Q none 0 0,Q none 0 0,Q none 0 0] 89))) (by go_grown);have R:=Blk.new (w.alloc (.cells #[.bool has,Q ba d.length bk,Q va c.length vk,Q da dec.length dk] 89)) 89 #[.bool false,Q none 0 0,Q none 0 0,Q none 0 0];rw[World.size_alloc]at R;go_enter func96,ntmps96
 go_wp2_with fail
 have ag:w.heap.size+2≤((w.alloc (.cells #[.bool has,Q ba d.length bk,Q va c.length vk,Q da dec.length dk] 89)).alloc (.cells #[.bool false,Q none 0 0,Q none 0 0,Q none 0 0] 89)).heap.size:=by simp
 generalize ((w.alloc (.cells #[.bool has,Q ba d.length bk,Q va c.length vk,Q da dec.length dk] 89)).alloc (.cells #[.bool false,Q none 0 0,Q none 0 0,Q none 0 0] 89))=W at*;have hF:w.heap.size∉[w.heap.size+1]:=by simp
 have p0:=z0l (F:=[w.heap.size+1]) (B.cell 0 _ rfl) hF;have p1:=z0l (F:=[w.heap.size+1]) (B.cell 1 _ rfl) hF;have p2:=z0l (F:=[w.heap.size+1]) (B.cell 2 _ rfl) hF;have p3:=z0l (F:=[w.heap.size+1]) (B.cell 3 _ rfl) hF;have aa:Nonempty (LatO [w.heap.size+1] W):=⟨⟨W,Out.refl _ _⟩⟩
 have hW:Below W.heap.size W W.drew:=(Below.refl _ _).drew;have A:∀w',Below W.heap.size W w'→∃u:LatO [w.heap.size+1] W,w'=u.val:=fun w' ab=>⟨⟨w',Out.of_below ab⟩,rfl⟩
 refine z0d (S:=fun w'=>∃u:LatO [w.heap.size+1] W,w'=u.val) (by kernel_rfl) ?_;refine sgr [(0,4),(5,2),(8,2)] 5 (by kernel_rfl) (A _ hW) ?_;simp only[pkE];repeat go_big_quiet_step (fail)
 refine wpQuiet_nil ?_;refine cla 4 (some 7) 86 #[Q ba d.length bk] 4 (by kernel_rfl) ?_;refine(I _ (h1.below (z.trans (hW.mono z.size)))).mono ?_;rintro e w1 ⟨v1,q1,rfl,e1,o1,n1,g1,hb⟩;have L1:∀x∈txnK.fp v1 q1,W.heap.size≤x:=fun x hx=>by have:=g1 x hx;have:=hW.size;omega
 have M1:=o1.lt;replace hW:=hW.trans (hb.mono hW.size);clear hb g1;refine⟨_,rfl,A _ hW,?_⟩;simp only[Act.put,pjE];refine cla 7 (some 10) 144 #[Q va c.length vk] 3 (by kernel_rfl) ?_;refine(J _ (h2.below (z.trans (hW.mono z.size)))).mono ?_;rintro e w2 ⟨v2,q2,rfl,e2,o2,n2,g2,hb⟩;have L2:∀x∈roundK.fp v2 q2,W.heap.size≤x:=fun x hx=>by have:=g2 x hx;have:=hW.size;omega
 have U:∀x∈txnK.fp v1 q1,∀y∈roundK.fp v2 q2,x≠y:=fun x hx y hy e=>by have:=M1 x hx;have:=g2 y hy;omega
 have M2:=o2.lt;have T:=hb.size;replace o1:=o1.below hb;replace hW:=hW.trans (hb.mono hW.size);clear hb g2;refine⟨_,rfl,A _ hW,?_⟩;simp only[Act.put,pjE];refine cla 10 (some 13) 145 #[Q da dec.length dk] 2 (by kernel_rfl) ?_;refine(L _ (h3.below (z.trans (hW.mono z.size)))).mono ?_;rintro e w3 ⟨a3,c3,rfl,o3,g3,hb⟩;have L3:∀x∈intK.fp (Q a3 dec.length c3) dec,W.heap.size≤x:=fun x hx=>by have:=g3 x hx;have:=hW.size;omega
 have V:∀x∈txnK.fp v1 q1,∀y∈intK.fp (Q a3 dec.length c3) dec,x≠y:=fun x hx y hy e=>by have:=M1 x hx;have:=g3 y hy;omega
 have X:∀x∈roundK.fp v2 q2,∀y∈intK.fp (Q a3 dec.length c3) dec,x≠y:=fun x hx y hy e=>by have:=M2 x hx;have:=g3 y hy;omega
 replace o1:=o1.below hb;replace o2:=o2.below hb;replace hW:=hW.trans (hb.mono hW.size);clear hb g3 M1 M2 T;obtain⟨s1,t1,rfl⟩:=o1.shape;obtain⟨s2,t2,rfl⟩:=o2.shape;refine⟨_,rfl,A _ hW,?_⟩;simp only[Act.put,pjE];refine qta 11 (some 14) (.agg #[.bool has,Q s1 q1.length t1,Q s2 q2.length t2,Q a3 dec.length c3]) 1 (by kernel_rfl) (fun u _=>by kernel_rfl) (A _ hW) ?_;simp only[Act.put,pjE];have R3:=R.below hW;refine ona 12 0 rfl (by kernel_rfl) ?_;have Z:=R3.row #[.bool has,Q s1 q1.length t1,Q s2 q2.length t2,Q a3 dec.length c3];have C:=z0x w3 (w.heap.size+1) #[.bool has,Q s1 q1.length t1,Q s2 q2.length t2,Q a3 dec.length c3];have E:Out [w.heap.size+1] W (w3.setRow (w.heap.size+1) #[.bool has,Q s1 q1.length t1,Q s2 q2.length t2,Q a3 dec.length c3]):=(Out.of_below hW).trans C;refine z0A (by kernel_rfl) 89 _ _ rfl _ #[.bool has,Q s1 q1.length t1,Q s2 q2.length t2,Q a3 dec.length c3] rfl rfl 89 _ R3 z5C rfl (by simp[Value.oneCell']) ?_
 go_wp2
 refine ThenGo.to ⟨⟨⟨_,E⟩,rfl⟩,?_⟩;refine z0h (by kernel_rfl) ?_;have D:∀x,W.heap.size≤x→x∉[w.heap.size+1]:=fun x hx=>by simp only[List.mem_singleton];omega
 have ad:=o1.out C (fun x hx=>D x (L1 x hx));have ae:=o2.out C (fun x hx=>D x (L2 x hx));have af:=o3.out C (fun x hx=>D x (L3 x hx));have Y:Below w.heap.size w (w3.setRow (w.heap.size+1) #[.bool has,Q s1 q1.length t1,Q s2 q2.length t2,Q a3 dec.length c3]):=z0o (z.trans (hW.mono z.size)) (by omega) _;clear p0 p1 p2 p3 aa A I J L C E o1 o2 o3 R3;generalize w3.setRow (w.heap.size+1) #[.bool has,Q s1 q1.length t1,Q s2 q2.length t2,Q a3 dec.length c3]=w4 at*;obtain⟨p0,p1,p2,p3⟩:=Z.cel4
 go_wp2
 refine bodyPost_ret (v:=.agg #[.bool has,Q s1 q1.length t1,Q s2 q2.length t2,Q a3 dec.length c3]) (by simp[results,results96,go_sem,p0,p1,p2,p3]) rfl ?_;refine⟨⟨has,Q s1 q1.length t1,q1,Q s2 q2.length t2,q2,Q a3 dec.length c3,dec⟩,rfl,?_,⟨ad,ae,af⟩,?_,?_,Y⟩
 ·simp only[g,e1,e2]
 ·exact List.nodup_append.2 ⟨n1,List.nodup_append.2 ⟨n2,z0L _ _,X⟩,fun x hx y hy=>by
   rcases List.mem_append.1 hy with hy|hy
   ·exact U x hx y hy
   ·exact V x hx y hy⟩
 ·intro x hx;rcases List.mem_append.1 hx with hx|hx
  ·have:=L1 x hx;omega
  ·rcases List.mem_append.1 hx with hx|hx
   ·have:=L2 x hx;omega
   ·have:=L3 x hx;omega
theorem z3q(v:Value)(ps:List InstQ)(w:World)(h:instK.At w v ps)(ah:(∀p∈ps,(∀t∈p.batch,0<t.acts.length)∧(∀r∈p.rounds,0<r.rep.length∧0<r.pro.length)∧0<p.dec.length))(hl:(ps.length+nmL InstQ.n ps)≤1048576):
  Calls o 55 #[v] w fun e w'=>∃v' qs,e=.returned v'∧qs.map g=ps.map g∧instK.Own w' v' qs∧(instK.fp v' qs).Nodup∧(∀k∈instK.fp v' qs,w.heap.size≤k)∧Below w.heap.size w w':=by
 obtain⟨a,cap,rfl⟩:=h.shape;obtain⟨i0,hi,ay,az,aA⟩:=info_parts z1H;obtain⟨ai,aj⟩:=Kind.own_nil (K:=instK) w;have aa:Hid ((instK.fp (Q none 0 0) ([]:List InstQ)).Nodup∧∀k∈instK.fp (Q none 0 0) ([]:List InstQ),w.heap.size≤k):=by
  rw[aj];exact⟨by simp,by simp⟩
 have ag:Below w.heap.size w w:=Below.refl _ _;clear aj;go_enter func55,ntmps55
 go_wp2
 go_loopw[3,8] (fun v j wr=>∃ (k:Nat) (qs:List InstQ),k≤ps.length∧j=.int .i64 k∧Hid (qs.map g=(ps.take k).map g)∧instK.Own wr v qs∧Hid ((instK.fp v qs).Nodup∧∀k∈instK.fp v qs,w.heap.size≤k)∧Below w.heap.size w wr) (fun _ j _=>ps.length-(intOf j).toNat)
 case atStart=>exact⟨0,[],Nat.zero_le _,rfl,(rfl:_=_),ai,aa,ag⟩
 case round=>
  clear aa ai ag;obtain⟨k,qs,hk,rfl,HE,hO,HN,hb⟩:=hrel;obtain⟨sa,sc,rfl⟩:=hO.shape;have ad:Hid (qs.length=k):=by
   have:=congrArg List.length HE.out;rw[List.length_map,List.length_map,List.length_take]at this;show qs.length=k;omega
  by_cases N:k<ps.length
  ·obtain⟨b,aC,rfl,aI,hc,E⟩:=(h.below hb).cell (by decide) k N;have C:∀j x,(instK.cells ps[k])[j]?=some x→wr.cell? ⟨b,aC+k*4+j,none⟩=some x:=hc;have c0:=C 0 (.bool ps[k].has) rfl;have c1:=C 1 ps[k].vb rfl;have c2:=C 2 ps[k].vr rfl;have c3:=C 3 ps[k].vd rfl;rw[Nat.add_zero]at c0;have aB:=z01 InstQ.n ps k N;have d:=ah _ (List.getElem_mem N);have ab:Hid (∀p':InstQ,p'.e=g ps[k]→(qs++[p']).map g=(ps.take (k+1)).map g):=fun p' av=>by
    rw[List.take_succ_eq_append_getElem N,List.map_append,List.map_append,HE.out,List.map_singleton,List.map_singleton,av]
   clear hc C;have O:=z4A ps[k];have X:=fun w h=>O w h (by omega) d.1 d.2.1 d.2.2
   clear O HE;generalize ps[k]=p at*;obtain⟨has,vb,z,vr,y,vd,dec⟩:=p;obtain⟨ba,bk,rfl⟩:∃a c,vb=Q a z.length c:=E.1.shape;obtain⟨va,vk,rfl⟩:∃a c,vr=Q a y.length c:=E.2.1.shape;obtain⟨da,dk,rfl⟩:∃a c,vd=Q a dec.length c:=E.2.2.shape;dsimp only at c0 c1 c2 c3 X;have M:Below wr.heap.size wr (wr.alloc (.cells #[.bool has,Q ba z.length bk,Q va y.length vk,Q da dec.length dk] 89)):=by go_grown
   have aG:=instK.rd_below E M;replace hO:=hO.below M;replace hb:=hb.trans (M.mono hb.size)
   go_wp2_with fail
   clear c0 c1 c2 c3 M;generalize wr.alloc (.cells #[.bool has,Q ba z.length bk,Q va y.length vk,Q da dec.length dk] 89)=Y at*;have Z:Hid (∀x∈instK.fp (Q sa qs.length sc) qs,x<Y.heap.size):=hO.lt;have ae:Hid (w.heap.size≤Y.heap.size):=hb.size;refine(X Y aG).mono ?_;rintro e w2 ⟨q,rfl,eq,oq,nq,gq,J⟩;replace hO:=hO.below J;replace hb:=hb.trans (J.mono hb.size);have aH:=J.size;clear X J;obtain⟨qh,aD,qb,aF,qr,aE,qd⟩:=q;obtain⟨x1,y1,rfl⟩:∃a c,aD=Q a qb.length c:=oq.1.shape;obtain⟨x2,y2,rfl⟩:∃a c,aF=Q a qr.length c:=oq.2.1.shape;obtain⟨x3,y3,rfl⟩:∃a c,aE=Q a qd.length c:=oq.2.2.shape;have A:Below w2.heap.size w2 (w2.alloc (.cells #[.bool qh,Q x1 qb.length y1,Q x2 qr.length y2,Q x3 qd.length y3] 89)):=by go_grown
   have V:=hO.below A;have af:=instK.own_out (F:=[]) oq (Out.of_below A) (fun _ _=>by simp);have L:=hb.trans (A.mono hb.size);have aq:Y.heap.size≤(w2.alloc (.cells #[.bool qh,Q x1 qb.length y1,Q x2 qr.length y2,Q x3 qd.length y3] 89)).heap.size:=by have:=A.size;omega
   clear hO oq;have I:=V.1
   go_wp2_with (at_builtin;refine wpList_append_own_at _ rfl _ _ 28 rfl 0 89 i0 (.agg #[.bool false,Q none 0 0,Q none 0 0,Q none 0 0]) 4 80 Tryz.underlying28 hi ay az aA rfl (by decide) _ qs.length (instK.row qs) rfl I ⟨w2.heap.size,0,none⟩ 1 1 [.bool qh,Q x1 qb.length y1,Q x2 qr.length y2,Q x3 qd.length y3] rfl rfl ?c1 ?c2 ?c3 ?c4 ?c5 ?_)
   all_goals try(case c1=>intro j u hj;match j,hj with|0,hj=>simp at hj;subst hj;simp[Addr.add]|1,hj=>simp at hj;subst hj;simp[Addr.add]|2,hj=>simp at hj;subst hj;simp[Addr.add]|3,hj=>simp at hj;subst hj;simp[Addr.add])
   all_goals try(case c2=>intro u hu;simp at hu;rcases hu with rfl|rfl|rfl|rfl<;>rfl)
   all_goals try(case c3=>have:=ad.out;unfold maxLen;omega)
   all_goals try(case c4=>have:=ad.out;omega)
   all_goals try(case c5=>first|omega|simp)
   intro v' w5 U D al W;clear al I;rw[show w2.heap.size+1=(w2.alloc (.cells #[.bool qh,Q x1 qb.length y1,Q x2 qr.length y2,Q x3 qd.length y3] 89)).heap.size from(World.size_alloc _ _).symm]at W;generalize aw:w2.alloc (.cells #[.bool qh,Q x1 qb.length y1,Q x2 qr.length y2,Q x3 qd.length y3] 89)=WA at*;clear aw;obtain⟨ap,ak,T,am⟩:=V.snoc (p:=(⟨qh,Q x1 qb.length y1,qb,Q x2 qr.length y2,qr,Q x3 qd.length y3,qd⟩:InstQ)) HN.out.1 HN.out.2 af nq (fun x hx ax=>by have:=Z.out x ax;have:=gq x hx;omega) (fun x hx=>by have:=gq x hx;have:=ae.out;omega) L.size U D W;have ar:Below w.heap.size w w5:=Out.keep L am L.size (fun x hx=>HN.out.2 x (by simp only[Kind.fp,List.mem_append];exact Or.inl hx));have an:Hid ((qs++[(⟨qh,Q x1 qb.length y1,qb,Q x2 qr.length y2,qr,Q x3 qd.length y3,qd⟩:InstQ)]).map g=(ps.take (k+1)).map g):=ab.out _ eq;have ao:Hid ((instK.fp v' (qs++[(⟨qh,Q x1 qb.length y1,qb,Q x2 qr.length y2,qr,Q x3 qd.length y3,qd⟩:InstQ)])).Nodup∧∀k∈instK.fp v' (qs++[(⟨qh,Q x1 qb.length y1,qb,Q x2 qr.length y2,qr,Q x3 qd.length y3,qd⟩:InstQ)]),w.heap.size≤k):=⟨ak,T⟩
   clear ab HN Z ae af V L U D W am ak T E hb A aB d aq gq nq eq
   go_wp2
   go_roundw
   case rel=>exact⟨k+1,_,by omega,by go_num,an,ap,ao,ar⟩
   case measure=>simp[intOf];omega
  ·have au:k=ps.length:=by omega
   subst au;have hE:=HE.out;rw[List.take_length]at hE;clear HE
   go_wp2
   go_ret;exact⟨_,qs,rfl,hE,hO,HN.out.1,HN.out.2,hb⟩
theorem rgtb{x:InstE}(h:insF x=0):x.has=false→x.batch=[]:=by
 obtain⟨h0,_⟩:=z10 h;exact(z1p h0).2.2.2.1
theorem batp{p:InstQ}(h:insF (g p)=0)(hh:p.has=true):0<p.batch.length:=by
 obtain⟨h0,_⟩:=z10 h;have:=(z1p h0).2.2.2.2 hh;unfold batF at this;by_cases hl:(g p).batch.length<1∨4<(g p).batch.length
 ·rw[if_pos hl]at this;exact absurd this (by decide)
 ·have h2:(g p).batch.length=p.batch.length:=by show(p.batch.map TxnQ.e).length=_;simp
  omega
theorem q5q{ds:List InstE}(k:Nat)(hk:k<ds.length)(h0:insF (ds.getD k z0W)=0)(h:((ds.getD k z0W).has && (ocV (ds.getD k z0W)==1))=true):z4p (ds.take (k+1))=z4p (ds.take k)++(ds.getD k z0W).batch:=by
 rw[z5N ds k hk];rw[Bool.and_eq_true,beq_iff_eq]at h;have hv:=h.2;unfold ocV at hv;rw[if_pos h0]at hv;by_cases h3:outV (ds.getD k z0W).dec=3
 ·rw[if_pos h3]at hv;exact absurd hv (by decide)
 ·rw[if_neg h3]at hv;rw[if_pos hv]
theorem q6i{ds:List InstE}(k:Nat)(hk:k<ds.length)(h0:insF (ds.getD k z0W)=0)(h:((ds.getD k z0W).has && (ocV (ds.getD k z0W)==1))=false):z4p (ds.take (k+1))=z4p (ds.take k):=by
 rw[z5N ds k hk];rw[Bool.and_eq_false_iff]at h;have hb0:=(rgtb h0)
 rcases h with h|h
 ·rw[hb0 h];simp
 ·have hv:¬ocV (ds.getD k z0W)=1:=by simpa using h
  unfold ocV at hv;rw[if_pos h0]at hv;by_cases h3:outV (ds.getD k z0W).dec=3
  ·rw[if_neg (by rw[h3];decide)];simp
  ·rw[if_neg h3]at hv;rw[if_neg hv];simp
theorem z9N(v:Value)(ps:List InstQ)(w:World)(hG:Rul w)(h:instK.At w v ps)(av:∀p∈ps,insF (g p)=0)(h4:ps.length≤4)(hl:(ps.length+nmL InstQ.n ps)≤1048576):
  Calls o 88 #[v] w fun e w'=>∃ (v':Value) (qs:List TxnQ),e=.returned v'∧qs.map TxnQ.e=z4p (ps.map g)∧qs.length≤16∧w'.ownsRow w.heap.size 158 4 v' qs.length (txnK.row qs)∧(∀q∈qs,txnK.rd w q)∧Below w.heap.size w w':=by
 obtain⟨a,cap,rfl⟩:=h.shape;obtain⟨i0,hi,az,aA,aB⟩:=info_parts z1y;have ai:w.ownsRow w.heap.size 158 4 (Q none 0 0) ([]:List TxnQ).length (txnK.row []):=World.ownsRow_nil _ _ _ _;have ad:Hid (([]:List TxnQ).map TxnQ.e=z4p ((ps.map g).take 0)):=by show _=_;simp[z4p]
 have ae:Hid (([]:List TxnQ).length≤4*0):=by show _≤_;simp
 have ag:Hid (∀q∈([]:List TxnQ),txnK.rd w q):=fun q hq=>by simp at hq
 go_enter func88,ntmps88
 go_wp2
 go_loopw[3,8] (fun v j wr=>∃ (k:Nat) (qs:List TxnQ),k≤ps.length∧j=.int .i64 k∧Hid (qs.map TxnQ.e=z4p ((ps.map g).take k))∧Hid (qs.length≤4*k)∧wr.ownsRow w.heap.size 158 4 v qs.length (txnK.row qs)∧Hid (∀q∈qs,txnK.rd w q)∧Below w.heap.size w wr) (fun _ j _=>ps.length-(intOf j).toNat)
 case atStart=>exact⟨0,[],Nat.zero_le _,rfl,ad,ae,ai,ag,Below.refl _ _⟩
 case round=>
  clear ad ae ai ag;obtain⟨k,qs,hk,rfl,HE,HL,hO,HR,hb⟩:=hrel;obtain⟨sa,sc,rfl⟩:=z0f hO;by_cases A:k<ps.length
  ·have h0:=av _ (List.getElem_mem A);have z:=z5G ps k A;have HY:Hid ((ps[k].has && (ocV (g ps[k])==1))=true→z4p ((ps.map g).take (k+1))=qs.map TxnQ.e++ps[k].batch.map TxnQ.e):=fun hx=>by
    rw[HE.out];have:=q5q (ds:=ps.map g) k (by simpa using A) (by rw[z];exact h0) (by rw[z];exact hx);rw[z]at this;exact this
   have HN:Hid ((ps[k].has && (ocV (g ps[k])==1))=false→z4p ((ps.map g).take (k+1))=qs.map TxnQ.e):=fun hx=>by
    rw[HE.out];exact q6i (ds:=ps.map g) k (by simpa using A) (by rw[z];exact h0) (by rw[z];exact hx)
   have ao:=q6X h0;have D:Hid (ps[k].has=true→0<ps[k].batch.length):=fun hx=>batp h0 hx
   have hn:InstQ.n ps[k]≤1048576:=by have:=z6O ps k A;omega
   have T:=z2O ps[k];have M:=fun w hG h=>T w hG h hn
   obtain⟨b,aC,rfl,ar,hc,O⟩:=h.cell (by decide) k A;have I:∀j x,(instK.cells ps[k])[j]?=some x→w.cell? ⟨b,aC+k*4+j,none⟩=some x:=hc;have c0:=z7F (I 0 (.bool ps[k].has) rfl) hb;have c1:=z7F (I 1 ps[k].vb rfl) hb;have c2:=z7F (I 2 ps[k].vr rfl) hb;have c3:=z7F (I 3 ps[k].vd rfl) hb;rw[Nat.add_zero]at c0;have aD:b<wr.heap.size:=Nat.lt_of_lt_of_le ar hb.size;clear hc I T h0 z HE;generalize ocC (g ps[k])=OC at*;generalize ocV (g ps[k])=OV at*;generalize ps[k]=p at*;obtain⟨has,vb,d,vr,y,vd,dec⟩:=p;have hT:txnK.At w vb d:=O.1;obtain⟨ba,bk,rfl⟩:=hT.shape;obtain⟨va,vk,rfl⟩:∃a c,vr=Q a y.length c:=O.2.1.shape;obtain⟨da,dk,rfl⟩:∃a c,vd=Q a dec.length c:=O.2.2.shape;dsimp only at c0 c1 c2 c3 M HY HN ao D;have ab:Below wr.heap.size wr (wr.alloc (.cells #[.bool has,Q ba d.length bk,Q va y.length vk,Q da dec.length dk] 89)):=by go_grown
   have Yb:=Blk.new wr 89 #[.bool has,Q ba d.length bk,Q va y.length vk,Q da dec.length dk];replace hO:=z0c hO ab;replace hb:=hb.trans (ab.mono hb.size);have aE:=q5m OC OV;have af:Hid (qs.length≤16):=show _≤_ by have:=HL.out;omega
   cases has with
   |false=>
    have E:Hid (qs.map TxnQ.e=z4p ((ps.map g).take (k+1))):=show _=_ by rw[HN.out rfl]
    have C:Hid (qs.length≤4*(k+1)):=show _≤_ by have:=HL.out;omega
    clear HY HN D HL M Yb
    go_wp2_with fail
    generalize wr.alloc (.cells #[.bool false,Q ba d.length bk,Q va y.length vk,Q da dec.length dk] 89)=Y at*
    go_wp2
    go_roundw
    case rel=>exact⟨k+1,qs,by omega,by go_num,E,C,hO,HR,hb⟩
    case measure=>simp[intOf];omega
   |true=>
    have am:=instK.rd_below (w':=wr.alloc (.cells #[.bool true,Q ba d.length bk,Q va y.length vk,Q da dec.length dk] 89)) O hb
    go_wp2_with fail
    generalize wr.alloc (.cells #[.bool true,Q ba d.length bk,Q va y.length vk,Q da dec.length dk] 89)=Y at*;clear c0 c1 c2 c3 ab;refine(M Y (hG.below hb) am).mono ?_;rintro e w2 ⟨rfl,L⟩;replace hO:=z0c hO L;replace hb:=hb.trans (L.mono hb.size);replace Yb:=Yb.below L;clear L M am
    cases hv:(OV==1)with
    |false=>
     have E:Hid (qs.map TxnQ.e=z4p ((ps.map g).take (k+1))):=show _=_ by rw[HN.out (by rw[hv];rfl)]
     have C:Hid (qs.length≤4*(k+1)):=show _≤_ by have:=HL.out;omega
     clear HY HN D HL Yb
     go_wp2
     go_roundw
     case rel=>exact⟨k+1,qs,by omega,by go_num,E,C,hO,HR,hb⟩
     case measure=>simp[intOf];omega
    |true=>
     have ah:=HY.out (by rw[hv];rfl);have ax:=D.out (by simp);have E:Hid ((qs++d).map TxnQ.e=z4p ((ps.map g).take (k+1))):=show _=_ by rw[ah,List.map_append]
     have C:Hid ((qs++d).length≤4*(k+1)):=show _≤_ by have:=HL.out;rw[List.length_append];omega
     have an:Hid (∀q∈qs++d,txnK.rd w q):=fun q hq=>by
      rcases List.mem_append.1 hq with hq|hq
      ·exact HR.out q hq
      ·obtain⟨a9,c9,e9,Z,N⟩:=hT;exact N q hq
     have aa:=hT.below hb;obtain⟨bb,bo,aq⟩:∃bb bo,ba=some ⟨bb,bo,none⟩:=by
      obtain⟨b9,o9,e9,_⟩:=aa.cell (by decide) 0 ax;exact⟨b9,o9,e9⟩
     subst aq;have X:∀j u,(txnK.row d)[j]?=some u→w2.cell? ((⟨bb,bo,none⟩:Addr).add j)=some u:=fun j u hu=>by
      obtain⟨a9,c9,e9,Z,N⟩:=aa;simp only[Value.slice.injEq]at e9;obtain⟨rfl,_,rfl⟩:=e9;rcases Z with h9|⟨b9,o9,ea,_,au⟩
      ·rw[h9]at hu;simp at hu
      ·simp only[Option.some.injEq,Addr.mk.injEq,and_true]at ea;obtain⟨rfl,rfl⟩:=ea;rw[Addr.add_lit];exact au j u hu
     have U:∀u∈txnK.row d,u.oneCell'=true:=fun u hu=>by
      obtain⟨q,hq,hu⟩:=List.mem_flatMap.1 hu;have ay:∃a c,q.va=Q a q.acts.length c:=by
       obtain⟨a9,c9,e9,Z,N⟩:=hT;have h9:actK.At w q.va q.acts:=N q hq;exact h9.shape
      obtain⟨a9,c9,e9⟩:=ay;have al:u∈[Value.int .i64 q.i,.int .i64 q.s,.int .i64 q.q,q.va]:=hu;simp only[List.mem_cons,List.not_mem_nil,or_false]at al;rcases al with rfl|rfl|rfl|rfl
      ·rfl
      ·rfl
      ·rfl
      ·rw[e9];rfl
     have ak:(txnK.row d).length=d.length*4:=Kind.row_length d;have y1:=Yb.cell 1 _ rfl;clear HY HN D HL HR ah
     go_wp2_with (at_builtin;refine wpList_append_own_at _ rfl _ _ 52 rfl w.heap.size 158 i0 (.agg #[.int .i64 0,.int .i64 0,.int .i64 0,Q none 0 0]) 4 48 Tryz.underlying52 hi az aA aB rfl (by decide) _ qs.length (txnK.row qs) rfl hO ⟨bb,bo,none⟩ d.length bk (txnK.row d) rfl ak X U ?c3 ?c4 ?c5 ?_)
     all_goals try(case c3=>have:=af.out;unfold maxLen;omega)
     all_goals try(case c4=>have:=af.out;omega)
     all_goals try(case c5=>exact hb.size)
     intro v' w5 V J aj z;have W:txnK.row (qs++d)=txnK.row qs++txnK.row d:=by simp[Kind.row]
     rw[←W,←List.length_append]at V;have ap:Below w.heap.size w w5:=hb.grown J hb.size (fun j hj=>(hO.lt j hj).1);clear aj z J W hO X U ak y1 Yb aa hb
     go_wp2
     go_roundw
     case rel=>exact⟨k+1,_,by omega,by go_num,E,C,V,an,ap⟩
     case measure=>simp[intOf];omega
  ·have aw:k=ps.length:=by omega
   subst aw;have hE:=HE.out;rw[List.take_of_length_le (by simp)]at hE;have hL:=HL.out;clear HE
   go_wp2
   go_ret;first|exact⟨_,qs,rfl,hE,by omega,hO,HR.out,hb⟩|exact⟨_,rfl,qs,hE,by omega,hO,HR.out,hb⟩
section
open Go.Maps
theorem q6j:laidOutB o=true:=by kernel_rfl
theorem q6k:(213:TypeId)<o.types.size:=of_decide_eq_true (by kernel_rfl)
theorem q4H:(match o.underlying 213 with|some (.array _ _)|some (.struct _)=>true|_=>false)=true:=by kernel_rfl
theorem lawNm:Keyed o 213:=Keyed.of_law (deep_law_laid q6j (m:=2) (by omega) q6k (by kernel_rfl) q4H)
theorem q6l:o.keyType 213=true:=by kernel_rfl
theorem szP:∃m,o.types.size+1=m+2:=⟨_,rfl⟩
theorem q6m(i s q:Int)(hi:(Lit.int .i64 i).wf=true)(hs:(Lit.int .i64 s).wf=true)(hq:(Lit.int .i64 q).wf=true):∃l,keyOf o 213 (.agg #[.int .i64 i,.int .i64 s,.int .i64 q])=some l:=by
 obtain⟨m,hm⟩:=szP;have hc:o.cellsOf 213=3:=by kernel_rfl
 have hc1:o.cellsOf 2=1:=by kernel_rfl
 have hf:(Value.agg #[.int .i64 i,.int .i64 s,.int .i64 q]).formed o 213=true:=by
  simp[Value.formed,Tryz.underlying213,hc]
 unfold keyOf;rw[Tryz.underlying213];simp only[q6l,hf,Bool.and_self,if_true,hm];simp[Program.keyLits,Tryz.underlying213,Tryz.underlying2,hc,hc1,Value.cells,hi,hs,hq]
abbrev Nm:=Int × Int × Int
def nmV(x:Nm):Value:=.agg #[.int .i64 x.1,.int .i64 x.2.1,.int .i64 x.2.2]
def nmW(x:Nm):Prop:=(Lit.int .i64 x.1).wf=true∧(Lit.int .i64 x.2.1).wf=true∧(Lit.int .i64 x.2.2).wf=true
noncomputable def kyL (x:Nm):Lit:=(keyOf o 213 (nmV x)).getD (.bool false)
theorem z4B{x:Nm}(h:nmW x):keyOf o 213 (nmV x)=some (kyL x):=by
 obtain⟨l,hl⟩:=q6m x.1 x.2.1 x.2.2 h.1 h.2.1 h.2.2;have e:keyOf o 213 (nmV x)=some l:=hl;unfold kyL;rw[e];rfl
theorem q5r{x y:Nm}(hx:nmW x)(hy:nmW y)(h:kyL x=kyL y):x=y:=by
 have e1:=z4B hx;have e2:=z4B hy;rw[←h]at e2;have e:=lawNm.inj e1 e2;obtain⟨a,b,c⟩:=x;obtain⟨a',b',c'⟩:=y;simp[nmV]at e;obtain⟨rfl,rfl,rfl⟩:=e;rfl
def Cnt{H:Type}(D:DataW H)(ns:List Nm):Prop:=IsMap D∧∀x,nmW x→D.atKey (kyL x) (.lit (.int .i64 0))=.lit (.int .i64 (ns.count x))
theorem Cnt.none{H:Type}:Cnt (H:=H) (.map []) []:=⟨⟨[],rfl⟩,fun x _=>rfl⟩
theorem Cnt.put{H:Type}{D:DataW H}{ns:List Nm}(h:Cnt D ns){x:Nm}(hx:nmW x):Cnt (D.put (kyL x) (.lit (.int .i64 ((ns.count x:Int)+1)))) (ns++[x]):=by
 refine⟨h.1.put _ _,fun y hy=>?_⟩;by_cases e:y=x
 ·subst e;rw[atKey_put_same h.1 (lawNm.key (z4B hx))];simp[List.count_append]
 ·rw[atKey_put_other (fun e1=>e (q5r hy hx e1)),h.2 y hy];have:[x].count y=0:=List.count_eq_zero.2 (by simpa using e);simp[List.count_append,this]
def nmA(t:TxnD):Nm:=(t.id,0,0)
def nmB(t:TxnD):Nm:=(0,t.session,t.seq)
def nms(acc:List TxnD):List Nm:=acc.flatMap (fun t=>[nmA t,nmB t])
theorem q39(acc:List TxnD)(t:TxnD):nms (acc++[t])=nms acc++[nmA t]++[nmB t]:=by
 simp[nms]
theorem q2J(acc:List TxnD):(nms acc).length=2*acc.length:=by
 induction acc with
 |nil=>rfl
 |cons a r ih=>
  have:nms (a::r)=nmA a::nmB a::nms r:=rfl;rw[this];simp only[List.length_cons,ih];omega
theorem z9O{acc:List TxnD}{t:TxnD}(ha:∀x∈acc,1≤x.id)(ht:1≤t.id):knw acc t=true↔0<(nms acc).count (nmA t)∨0<(nms acc).count (nmB t):=by
 rw[List.count_pos_iff,List.count_pos_iff];unfold knw nms stF;rw[List.any_eq_true];constructor
 ·rintro⟨x,hx,h⟩;simp only[Bool.or_eq_true,Bool.and_eq_true,beq_iff_eq]at h;rcases h with h|⟨h1,h2⟩
  ·exact Or.inl (List.mem_flatMap.2 ⟨x,hx,by simp[nmA,h]⟩)
  ·exact Or.inr (List.mem_flatMap.2 ⟨x,hx,by simp[nmB,h1,h2]⟩)
 ·rintro(h|h)
  ·obtain⟨x,hx,h⟩:=List.mem_flatMap.1 h;have hx1:=ha x hx;simp only[nmA,nmB,List.mem_cons,Prod.mk.injEq,List.not_mem_nil,or_false]at h;rcases h with h|h
   ·exact⟨x,hx,by simp[h.1]⟩
   ·omega
  ·obtain⟨x,hx,h⟩:=List.mem_flatMap.1 h;have hx1:=ha x hx;simp only[nmA,nmB,List.mem_cons,Prod.mk.injEq,List.not_mem_nil,or_false]at h;rcases h with h|h
   ·omega
   ·exact⟨x,hx,by simp[h.2.1,h.2.2]⟩
end
section
open Go.Maps Go.WideShapes Go.MapKept Go.ChangeMaps Go.ChangeShapes Go.WideElems
theorem q2K{H:Type}{P:Program}{w:World}{t k e:TypeId}{R:Value→Option (DataW H × List MemPlace)}{b n:Nat}{D:DataW H}(h:w.ownsMap P k R b n D)(L:Go.WideMaps.KeyLaw P k)
  (ht:P.underlying t=some (.map k e)) {z:Value} (hz:∀u:World,(zeroValue e).run P u=.ok z u) {zd:DataW H} {zp:List MemPlace} (ai:R z=some (zd,zp)) (hn:n<maxLen)
  {key:Value} {kl:Lit} (x:keyOf P k key=some kl):
  ∃ (v0:Value) (st:Nat) (w1:World) (D1:DataW H),(Instr.mapEntry t (.map (some b)) key).run P w=.ok (.tuple #[v0,goInt st]) w1∧w.mapTurned w1 b∧
   w1.ownsMap P k R b (n+1) D1∧D1.atKey kl zd=D.atKey kl zd∧
   ∀ (w2:World) (J:Value) (d:DataW H) (ps:List MemPlace),w2.heap[b]?=w1.heap[b]?→R J=some (d,ps)→
    ∃w3,(Instr.entryStore t (.map (some b)) (goInt st) J).run P w2=.ok () w3∧w3.ownsMap P k R b (n+1) (D.put kl d)∧w2.mapTurned w3 b:=by
 have K:Keyed P k:=Keyed.of_law L;have h0:=h;obtain⟨es,c,hb,F,hs,hD⟩:=h;obtain⟨v0,st,I,A,hr,hv,ag⟩:=entry_then_store L ht hz hb F x;have T:(setBlock w b (.map I A)).heap[b]?=some (.map I A):=heap_setBlock_same hb _;have V:∃D1,(setBlock w b (.map I A)).ownsMap P k R b (n+1) D1∧D1.atKey kl zd=D.atKey kl zd:=by
  rcases K.find w x es.toList F.keys with⟨h1,h2⟩|⟨j,e0,h1,h2,h3⟩
  ·obtain⟨w',hrun,E,_⟩:=h0.store K ht hn x ai;have e1:(Instr.mapEntry t (.map (some b)) key).run P w=.ok (.tuple #[z,goInt c]) (setBlock w b (.map (es.push ⟨key,z,c⟩) (c+1))):=by
    simp[Instr.mapEntry,run_underlying ht,MapKept.run_getObj_map hb,K.check w false x,h1,hz,MapKept.run_setObj_map _ hb,Result.andThen,setBlock]
   have e2:(Instr.mapUpdate t (.map (some b)) key z).run P w=.ok () (setBlock w b (.map (es.push ⟨key,z,c⟩) (c+1))):=by
    simp[Instr.mapUpdate,run_underlying ht,MapKept.run_getObj_map hb,K.check w false x,h1,MapKept.run_setObj_map _ hb,Result.andThen,setBlock]
   rw[e1]at hr;rw[e2]at hrun;simp only[Result.ok.injEq,true_and]at hrun hr;rw[←hr.2,hrun];refine⟨_,E,?_⟩;rw[atKey_put_same h0.isMap (K.key x)];have ah:(zeroValue e).run P w=.ok z w:=hz w;rcases fit_look false K ht ah hb F x with⟨_,_,Y⟩|⟨e0,y,ab,aa,_⟩
   ·rw[hD,Y zd]
   ·exact absurd aa (h2 e0 ab)
  ·have hj:es[j]?=some e0:=by simpa using h2
   have af:es.modify j (fun e=>{e with key:=key})=es:=by
    apply Array.ext';rw[Array.toList_modify,modify_eq_set _ _ _ _ h2];have:({e0 with key:=key}:MapEntry)=e0:=by rw[←h3]
    rw[this];exact set_self _ _ _ h2
   have e1:(Instr.mapEntry t (.map (some b)) key).run P w=.ok (.tuple #[e0.val,goInt e0.born]) (setBlock w b (.map es c)):=by
    simp[Instr.mapEntry,run_underlying ht,MapKept.run_getObj_map hb,K.check w false x,h1,hj,h3,L.stays w x,af,MapKept.run_setObj_map _ hb,Result.andThen,setBlock]
   rw[e1]at hr;simp only[Result.ok.injEq]at hr;rw[←hr.2];exact⟨D,⟨es,c,heap_setBlock_same hb _,F,by omega,hD⟩,rfl⟩
 obtain⟨D1,O,U⟩:=V;refine⟨v0,st,_,D1,hr,⟨es,c,I,A,hb,rfl⟩,O,U,fun w2 J d ps h2 W=>?_⟩;have N:=h2.trans T;obtain⟨M,C,ad,ae⟩:=ag w2 J N;obtain⟨w',hrun,E,_⟩:=h0.store K ht hn x W;rw[ae]at hrun;simp only[Result.ok.injEq,true_and]at hrun;refine⟨_,ad,?_,⟨I,A,M,C,N,rfl⟩⟩;rw[←hrun]at E;obtain⟨X,cx,Z,rest⟩:=E;have e3:(setBlock w b (.map M C)).heap[b]?=(setBlock w2 b (.map M C)).heap[b]?:=by
  rw[heap_setBlock_same hb,heap_setBlock_same N]
 exact⟨X,cx,e3▸Z,rest⟩
end
section
open Go.Maps
def Cts(w:World)(b:Nat)(ns:List Nm):Prop:=∃D:DataW Unit,w.ownsMap o 213 (plainElem o 2) b ns.length D∧Cnt D ns
theorem q6n:Go.WideMaps.KeyLaw o 213:=deep_law_laid q6j (m:=2) (by omega) q6k (by kernel_rfl) q4H
theorem q2L(u:World):(zeroValue 2).run o u=.ok (.int .i64 0) u:=by
 kernel_rfl
theorem Cts.made(w:World):Cts (w.alloc (.map #[] 0)) w.heap.size []:=⟨_,World.ownsMap_made w _ _ _,Cnt.none⟩
theorem Cts.lt{w:World}{b:Nat}{ns:List Nm}(h:Cts w b ns):b<w.heap.size:=by
 obtain⟨D,h,_⟩:=h;exact h.lt
theorem Cts.kept{w w':World}{b:Nat}{ns:List Nm}{row:Option Nat}(h:Cts w b ns)(hg:w.grownBy w' row)(hne:some b≠row):Cts w' b ns:=by
 obtain⟨D,h,hc⟩:=h;exact⟨D,h.kept hg hne,hc⟩
theorem Cts.look{w:World}{b:Nat}{ns:List Nm}(h:Cts w b ns){x:Nm}(hx:nmW x):(Instr.lookup 211 (.map (some b)) (nmV x) false).run o w=.ok (.int .i64 (ns.count x)) w:=by
 obtain⟨D,h,hc⟩:=h;obtain⟨c,hr,hat,_⟩:=h.lookup_int lawNm Tryz.underlying211 Tryz.underlying2 (q2L w) (z4B hx);rw[hc.2 x hx]at hat;simp only[DataW.lit.injEq,Lit.int.injEq,true_and]at hat;rw[hr,hat]
theorem Cts.inc{w:World}{b:Nat}{ns:List Nm}(h:Cts w b ns){x:Nm}(hx:nmW x)(hl:ns.length<1000):
  ∃ (v0:Value) (st:Nat) (w1 w3:World),(Instr.mapEntry 211 (.map (some b)) (nmV x)).run o w=.ok (.tuple #[v0,.int .i64 st]) w1∧
   (Instr.lookup 211 (.map (some b)) (nmV x) false).run o w1=.ok (.int .i64 (ns.count x)) w1∧
   (Instr.entryStore 211 (.map (some b)) (.int .i64 st) (.int .i64 ((ns.count x:Int)+1))).run o w1=.ok () w3∧w.mapTurned w1 b∧w.mapTurned w3 b∧Cts w3 b (ns++[x]):=by
 obtain⟨D,h,hc⟩:=h;have M:ns.count x≤ns.length:=List.count_le_length;have w0:(Lit.int .i64 0).wf=true:=by decide
 have wc:(Lit.int .i64 ((ns.count x:Int)+1)).wf=true:=WalkArith.wf_i64 (by omega);obtain⟨v0,st,w1,D1,hr,z,A,y,J⟩:=q2K h q6n Tryz.underlying211 q2L (plainElem_int Tryz.underlying2 w0) (by unfold maxLen;omega) (z4B hx);obtain⟨w3,E,C,L⟩:=J w1 _ _ _ rfl (plainElem_int Tryz.underlying2 wc);obtain⟨c,I,d,_⟩:=A.lookup_int lawNm Tryz.underlying211 Tryz.underlying2 (q2L w1) (z4B hx);rw[y,hc.2 x hx]at d;simp only[DataW.lit.injEq,Lit.int.injEq,true_and]at d;refine⟨v0,st,w1,w3,hr,by rw[I,d],E,z,z.trans L,⟨_,?_,hc.put hx⟩⟩;rw[List.length_append];exact C
end
end Go.Proofs.YtjjoahhnkpjolaaGreatDoor

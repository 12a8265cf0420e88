/- Texts joined,with what the laws reach alone. -/
import Derived.Test.YtfpponhjhbfbeaaGreatDoorSOAM
import Derived.Deep.Slices
import Derived.Deep.Strs
import Derived.ProofKit
import Derived.Test.YtfpponhjhbfbeaaGreatDoorRows
import Derived.Lib.LaidU8
import Derived.OpenVars
import Derived.LaidMore
import Derived.Stop.LaidErr
import Derived.Stop.Joined
set_option linter.unusedVariables false
set_option linter.unusedSimpArgs false
set_option maxRecDepth 100000
set_option maxHeartbeats 4000000
namespace Go.Proofs.YtfpponhjhbfbeaaGreatDoor
open Go.RowKit Go.BigFrame
theorem z01:(Tryz.prog.info? 49).map (fun i=>(i.zero,i.size,i.bytes))=some (some (.agg #[.bool false,.slice none 0 0,.slice none 0 0,.slice none 0 0]),4,80):=by kernel_rfl
theorem z1K(v:Value)(zs:List Int)(w:World)(h:intK.At w v zs)(h0:0<zs.length)(hl:zs.length≤1048576):
  Calls Tryz.prog 116 #[v] w fun e w'=>∃a c,e=.returned (.slice a zs.length c)∧intK.Own w' (.slice a zs.length c) zs∧(∀k∈intK.fp (.slice a zs.length c) zs,w.heap.size≤k)∧Below w.heap.size w w':=by
 obtain⟨a,cap,rfl⟩:=h.shape;have hR:=(z0N h).2;obtain⟨b,off,rfl,_⟩:=hR 0 h0;refine(z4o b off cap zs w hR h0 hl).mono ?_;rintro e w2 ⟨a2,c2,rfl,ho,hb⟩;obtain⟨O,G⟩:=z3q rfl ho;exact⟨a2,c2,rfl,O,G,hb⟩
theorem z3V(v:Value)(ps:List RoundQ)(w:World)(h:roundK.At w v ps)(hne:∀p∈ps,0<p.rep.length∧0<p.pro.length)(hl:ps.length+nmL RoundQ.n ps≤1048576):
  Calls Tryz.prog 115 #[v] w fun e w'=>∃v' qs,e=.returned v'∧qs.map RoundQ.e=ps.map RoundQ.e∧roundK.Own w' v' qs∧(roundK.fp v' qs).Nodup∧(∀k∈roundK.fp v' qs,w.heap.size≤k)∧Below w.heap.size w w':=by
 obtain⟨a,cap,rfl⟩:=h.shape;obtain⟨i0,hi,hz0,hz1,hz2⟩:=info_parts z2t;obtain⟨hn1,hn2⟩:=Kind.own_nil (K:=roundK) w;have HN0:Hid ((roundK.fp (.slice none 0 0) ([]:List RoundQ)).Nodup∧∀k∈roundK.fp (.slice none 0 0) ([]:List RoundQ),w.heap.size≤k):=by
  rw[hn2];exact⟨by simp,by simp⟩
 clear hn2;go_enter Tryz.func115,Tryz.ntmps115
 go_wp2
 go_loopw[3,8] (fun v j wr=>∃ (k:Nat) (qs:List RoundQ),k≤ps.length∧j=.int .i64 k∧Hid (qs.map RoundQ.e=(ps.take k).map RoundQ.e)∧roundK.Own wr v qs∧Hid ((roundK.fp v qs).Nodup∧∀k∈roundK.fp v qs,w.heap.size≤k)∧Below w.heap.size w wr) (fun _ j _=>ps.length-(intOf j).toNat)
 case atStart=>exact⟨0,[],Nat.zero_le _,rfl,(rfl:_=_),hn1,HN0,Below.refl _ _⟩
 case round=>
  clear HN0 hn1;obtain⟨k,qs,hk,rfl,HE,hO,HN,hb⟩:=hrel;obtain⟨sa,sc,rfl⟩:=hO.shape;have HQL:Hid (qs.length=k):=by
   have:=congrArg List.length HE.out;rw[List.length_map,List.length_map,List.length_take]at this;show qs.length=k;omega
  by_cases hlt:k<ps.length
  ·obtain⟨b,off,rfl,hbs,hc,hrd⟩:=(h.below hb).cell (by decide) k hlt;have hc':∀j x,(roundK.cells ps[k])[j]?=some x→wr.cell? ⟨b,off+k*2+j,none⟩=some x:=hc;have c0:=hc' 0 (ps[k].vr) rfl;have c1:=hc' 1 (ps[k].vp) rfl;have hzl:=z4b RoundQ.n ps k hlt;have hpos:=hne _ (List.getElem_mem hlt);have HPE:Hid (∀p':RoundQ,p'.e=RoundQ.e ps[k]→(qs++[p']).map RoundQ.e=(ps.take (k+1)).map RoundQ.e):=fun p' hp'=>by
    rw[List.take_succ_eq_append_getElem hlt,List.map_append,List.map_append,HE.out,List.map_singleton,List.map_singleton,hp']
   clear hc hc';generalize ps[k]=p at*;obtain⟨vr,rp,vp,pp⟩:=p;obtain⟨r1,r2⟩:intK.At wr vr rp∧intK.At wr vp pp:=hrd;replace hzl:rp.length+pp.length≤nmL RoundQ.n ps:=hzl;obtain⟨ra,rk,rfl⟩:=r1.shape;obtain⟨pa,pk,rfl⟩:=r2.shape;dsimp only at c0 c1 hpos;have hb3r:Below wr.heap.size wr (wr.alloc (.cells #[.slice ra rp.length rk,.slice pa pp.length pk] 117)):=by go_grown
   have hB3:=Blk.new wr 117 #[.slice ra rp.length rk,.slice pa pp.length pk];have HF:Hid (∀x∈roundK.fp (.slice sa qs.length sc) qs,x<wr.heap.size):=hO.lt;rw[Nat.add_zero]at c0;replace hO:=hO.below hb3r;have r3:=r1.below hb3r;have r4:=r2.below hb3r;have hb3:=hb.trans (hb3r.mono hb.size);have hcl1:=fun w h=>z1K (.slice ra rp.length rk) rp w h hpos.1 (by omega)
   have hcl2:=fun w h=>z1K (.slice pa pp.length pk) pp w h hpos.2 (by omega)
   clear HE
   go_wp2_with fail
   clear c0 c1 r1 r2 hb;generalize wr.alloc (.cells #[.slice ra rp.length rk,.slice pa pp.length pk] 117)=W3 at*;clear hb3r;have hF:wr.heap.size∉blk (.slice sa qs.length sc):=fun hx=>by
    have:=HF.out _ (by simp only[Kind.fp,List.mem_append];exact Or.inl hx);omega
   have p0:=z0m (F:=blk (.slice sa qs.length sc)) (hB3.cell 0 _ rfl) hF;have p1:=z0m (F:=blk (.slice sa qs.length sc)) (hB3.cell 1 _ rfl) hF;have hnn:Nonempty (LatO (blk (.slice sa qs.length sc)) W3):=⟨⟨W3,Out.refl _ _⟩⟩
   have hW:Below W3.heap.size W3 W3.drew:=(Below.refl _ _).drew;have hnw:∀w',Below W3.heap.size W3 w'→∃u:LatO (blk (.slice sa qs.length sc)) W3,w'=u.val:=fun w' hw'=>⟨⟨w',Out.of_below hw'⟩,rfl⟩
   refine z0i (S:=fun w'=>∃u:LatO (blk (.slice sa qs.length sc)) W3,w'=u.val) (by kernel_rfl) ?_;refine sgr [(0,3),(4,2)] 6 (by kernel_rfl) (hnw _ hW) ?_;simp only[pkE];repeat go_big_quiet_step (fail)
   refine wpQuiet_nil ?_;refine cla 3 (some 15) 116 #[.slice ra rp.length rk] 5 (by kernel_rfl) ?_;refine(hcl1 _ (r3.below hW)).mono ?_;rintro e w8 ⟨a1,c1,rfl,o1,g1,hb8⟩;have L1:∀x∈intK.fp (.slice a1 rp.length c1) rp,W3.heap.size≤x:=fun x hx=>by have:=g1 x hx;have:=hW.size;omega
   have M1:=o1.lt;replace hW:=hW.trans (hb8.mono hW.size);clear hb8 g1;refine⟨_,rfl,hnw _ hW,?_⟩;simp only[Act.put,pjE];refine cla 6 (some 18) 116 #[.slice pa pp.length pk] 4 (by kernel_rfl) ?_;refine(hcl2 _ (r4.below hW)).mono ?_;rintro e w9 ⟨a2,c2,rfl,o2,g2,hb9⟩;have L2:∀x∈intK.fp (.slice a2 pp.length c2) pp,W3.heap.size≤x:=fun x hx=>by have:=g2 x hx;have:=hW.size;omega
   have hdis:∀x∈intK.fp (.slice a1 rp.length c1) rp,∀y∈intK.fp (.slice a2 pp.length c2) pp,x≠y:=fun x hx y hy e=>by have:=M1 x hx;have:=g2 y hy;omega
   replace hW:=hW.trans (hb9.mono hW.size);replace o1:=o1.below hb9;clear hb9 g2 M1 hcl1 hcl2 r3 r4;refine⟨_,rfl,hnw _ hW,?_⟩;simp only[Act.put,pjE];refine qta 7 (some 19) (.agg #[.slice a1 rp.length c1,.slice a2 pp.length c2]) 3 (by kernel_rfl) (fun u _=>by kernel_rfl) (hnw _ hW) ?_;simp only[Act.put,pjE];refine ona 8 2 rfl (by kernel_rfl) ?_;have hbA:Below w9.heap.size w9 (w9.alloc (.cells #[.slice a1 rp.length c1,.slice a2 pp.length c2] 117)):=by go_grown
   replace hW:=hW.trans (hbA.mono hW.size);replace o1:=o1.below hbA;replace o2:=o2.below hbA;have hsrc:∀j u,[Value.slice a1 rp.length c1,.slice a2 pp.length c2][j]?=some u→(w9.alloc (.cells #[.slice a1 rp.length c1,.slice a2 pp.length c2] 117)).cell? ((⟨w9.heap.size,0,none⟩:Addr).add j)=some u:=by
    intro j u hj;match j,hj with|0,hj=>simp at hj;subst hj;simp[Addr.add]|1,hj=>simp at hj;subst hj;simp[Addr.add]
   go_wp2
   refine ThenGo.to ⟨hnw _ hW,?_⟩;generalize w9.alloc (.cells #[.slice a1 rp.length c1,.slice a2 pp.length c2] 117)=Z at*;clear hbA;have hO3:=hO.below hW;have hb9:=hb3.trans (hW.mono hb3.size);have hrow0:=hO3.1;refine ona 9 1 rfl (by kernel_rfl) ?_;refine wpList_append_own_at _ rfl _ _ 46 rfl 0 117 i0 (.agg #[.slice none 0 0,.slice none 0 0]) 2 48 Tryz.underlying46 hi hz0 hz1 hz2 rfl (by decide) _ qs.length (roundK.row qs) rfl hrow0 ⟨w9.heap.size,0,none⟩ 1 1 [.slice a1 rp.length c1,.slice a2 pp.length c2] rfl rfl hsrc ?c2 ?c3 ?c4 ?c5 ?_
   case c2=>intro u hu;simp at hu;rcases hu with rfl|rfl<;>rfl
   case c3=>have:=HQL.out;unfold maxLen;omega
   case c4=>have:=HQL.out;omega
   case c5=>omega
   intro v' w5 hown hgrow hnil hat;clear hnil hrow0 hsrc;have hW3:wr.heap.size≤W3.heap.size:=by have:=hB3.lt;omega
   obtain ⟨hO5,hn5,hlo5,hou⟩:=hO3.snoc (p:=⟨.slice a1 rp.length c1,rp,.slice a2 pp.length c2,pp⟩) HN.out.1 HN.out.2 ⟨o1,o2⟩ (List.nodup_append.2 ⟨z0v _ _,z0v _ _,hdis⟩) (fun x hx hx' => by
    have:=HF.out x hx';rcases List.mem_append.1 hx with hx|hx
    ·have:=L1 x hx;omega
    ·have:=L2 x hx;omega) (fun x hx=>by
    have:=hb3.size;rcases List.mem_append.1 hx with hx|hx
    ·have:=L1 x hx;omega
    ·have:=L2 x hx;omega) hb9.size hown hgrow hat
   have hb5:Below w.heap.size w w5:=Out.keep hb9 hou hb9.size (fun x hx=>HN.out.2 x (by simp only[Kind.fp,List.mem_append];exact Or.inl hx));have hW5:Out (blk (.slice sa qs.length sc)) W3 w5:=(Out.of_below hW).trans hou;have HE5:Hid ((qs++[(⟨.slice a1 rp.length c1,rp,.slice a2 pp.length c2,pp⟩:RoundQ)]).map RoundQ.e=(ps.take (k+1)).map RoundQ.e):=HPE.out _ rfl;have HN5:Hid ((roundK.fp v' (qs++[(⟨.slice a1 rp.length c1,rp,.slice a2 pp.length c2,pp⟩:RoundQ)])).Nodup∧∀k∈roundK.fp v' (qs++[(⟨.slice a1 rp.length c1,rp,.slice a2 pp.length c2,pp⟩:RoundQ)]),w.heap.size≤k):=⟨hn5,hlo5⟩
   clear hn5 hlo5 hou HPE HN HF o1 o2 L1 L2 hdis hown hgrow hat hO3 hO hb9 hb3
   go_wp2
   refine ThenGo.to ⟨⟨⟨_,hW5⟩,rfl⟩,?_⟩;simp only[Act.put,pgE,pjE];refine sgr [(10,1)] 0 (by kernel_rfl) ⟨⟨_,hW5⟩,rfl⟩ ?_;simp only[pkE];repeat go_big_quiet_step (fail)
   refine wpQuiet_nil ?_;refine z0n (by kernel_rfl) ?_;clear p0 p1 hnn hW hW5 hnw hB3 hF
   go_wp2
   go_roundw
   case rel=>exact⟨k+1,_,by omega,by go_num,HE5,hO5,HN5,hb5⟩
   case measure=>simp[intOf];omega
  ·have hkl:k=ps.length:=by omega
   subst hkl;have hE:=HE.out;rw[List.take_length]at hE;clear HE
   go_wp2
   go_ret;exact⟨_,qs,rfl,hE,hO,HN.out.1,HN.out.2,hb⟩
theorem z2R(p:InstQ)(w:World)(h:instK.rd w p)(hl:p.n≤1048576)(hne:∀t∈p.batch,0<t.acts.length)(hro:∀r∈p.rounds,0<r.rep.length∧0<r.pro.length)(hd0:0<p.dec.length):
  Calls Tryz.prog 75 #[.agg #[.bool p.has,p.vb,p.vr,p.vd]] w fun e w'=>∃q:InstQ,e=.returned (.agg #[.bool q.has,q.vb,q.vr,q.vd])∧q.e=p.e∧instK.own w' q∧(instK.foot q).Nodup∧(∀k∈instK.foot q,w.heap.size≤k)∧Below w.heap.size w w':=by
 obtain⟨has,vb,batch,vr,rounds,vd,dec⟩:=p;obtain⟨h1,h2,h3⟩:txnK.At w vb batch∧roundK.At w vr rounds∧intK.At w vd dec:=h;dsimp only[InstQ.n]at hl hne hro hd0;have hc1:=fun w hT=>z1H vb batch w hT hne (by omega)
 have hc2:=fun w hT=>z3V vr rounds w hT hro (by omega)
 have hc3:=fun w hT=>z1K vd dec w hT hd0 (by omega)
 obtain⟨ba,bk,rfl⟩:=h1.shape;obtain⟨va,vk,rfl⟩:=h2.shape;obtain⟨da,dk,rfl⟩:=h3.shape;have hb0:Below w.heap.size w ((w.alloc (.cells #[.bool has,.slice ba batch.length bk,.slice va rounds.length vk,.slice da dec.length dk] 49)).alloc (.cells #[.bool false,.slice none 0 0,.slice none 0 0,.slice none 0 0] 49)):=by go_grown
 have B:=(Blk.new w 49 #[.bool has,.slice ba batch.length bk,.slice va rounds.length vk,.slice da dec.length dk]).below (w':=((w.alloc (.cells #[.bool has,.slice ba batch.length bk,.slice va rounds.length vk,.slice da dec.length dk] 49)).alloc (.cells #[.bool false,.slice none 0 0,.slice none 0 0,.slice none 0 0] 49))) (by go_grown);have R:=Blk.new (w.alloc (.cells #[.bool has,.slice ba batch.length bk,.slice va rounds.length vk,.slice da dec.length dk] 49)) 49 #[.bool false,.slice none 0 0,.slice none 0 0,.slice none 0 0];rw[World.size_alloc]at R;go_enter Tryz.func75,Tryz.ntmps75
 go_wp2_with fail
 have hws:w.heap.size+2≤((w.alloc (.cells #[.bool has,.slice ba batch.length bk,.slice va rounds.length vk,.slice da dec.length dk] 49)).alloc (.cells #[.bool false,.slice none 0 0,.slice none 0 0,.slice none 0 0] 49)).heap.size:=by simp
 generalize ((w.alloc (.cells #[.bool has,.slice ba batch.length bk,.slice va rounds.length vk,.slice da dec.length dk] 49)).alloc (.cells #[.bool false,.slice none 0 0,.slice none 0 0,.slice none 0 0] 49))=W at*;have hF:w.heap.size∉[w.heap.size+1]:=by simp
 have p0:=z0m (F:=[w.heap.size+1]) (B.cell 0 _ rfl) hF;have p1:=z0m (F:=[w.heap.size+1]) (B.cell 1 _ rfl) hF;have p2:=z0m (F:=[w.heap.size+1]) (B.cell 2 _ rfl) hF;have p3:=z0m (F:=[w.heap.size+1]) (B.cell 3 _ rfl) hF;have hnn:Nonempty (LatO [w.heap.size+1] W):=⟨⟨W,Out.refl _ _⟩⟩
 have hW:Below W.heap.size W W.drew:=(Below.refl _ _).drew;have hnw:∀w',Below W.heap.size W w'→∃u:LatO [w.heap.size+1] W,w'=u.val:=fun w' hw'=>⟨⟨w',Out.of_below hw'⟩,rfl⟩
 refine z0i (S:=fun w'=>∃u:LatO [w.heap.size+1] W,w'=u.val) (by kernel_rfl) ?_;refine sgr [(0,4),(5,2),(8,2)] 5 (by kernel_rfl) (hnw _ hW) ?_;simp only[pkE];repeat go_big_quiet_step (fail)
 refine wpQuiet_nil ?_;refine cla 4 (some 7) 36 #[.slice ba batch.length bk] 4 (by kernel_rfl) ?_;refine(hc1 _ (h1.below (hb0.trans (hW.mono hb0.size)))).mono ?_;rintro e w1 ⟨v1,q1,rfl,e1,o1,n1,g1,hb⟩;have L1:∀x∈txnK.fp v1 q1,W.heap.size≤x:=fun x hx=>by have:=g1 x hx;have:=hW.size;omega
 have M1:=o1.lt;replace hW:=hW.trans (hb.mono hW.size);clear hb g1;refine⟨_,rfl,hnw _ hW,?_⟩;simp only[Act.put,pjE];refine cla 7 (some 10) 115 #[.slice va rounds.length vk] 3 (by kernel_rfl) ?_;refine(hc2 _ (h2.below (hb0.trans (hW.mono hb0.size)))).mono ?_;rintro e w2 ⟨v2,q2,rfl,e2,o2,n2,g2,hb⟩;have L2:∀x∈roundK.fp v2 q2,W.heap.size≤x:=fun x hx=>by have:=g2 x hx;have:=hW.size;omega
 have D12:∀x∈txnK.fp v1 q1,∀y∈roundK.fp v2 q2,x≠y:=fun x hx y hy e=>by have:=M1 x hx;have:=g2 y hy;omega
 have M2:=o2.lt;have hs12:=hb.size;replace o1:=o1.below hb;replace hW:=hW.trans (hb.mono hW.size);clear hb g2;refine⟨_,rfl,hnw _ hW,?_⟩;simp only[Act.put,pjE];refine cla 10 (some 13) 116 #[.slice da dec.length dk] 2 (by kernel_rfl) ?_;refine(hc3 _ (h3.below (hb0.trans (hW.mono hb0.size)))).mono ?_;rintro e w3 ⟨a3,c3,rfl,o3,g3,hb⟩;have L3:∀x∈intK.fp (.slice a3 dec.length c3) dec,W.heap.size≤x:=fun x hx=>by have:=g3 x hx;have:=hW.size;omega
 have D13:∀x∈txnK.fp v1 q1,∀y∈intK.fp (.slice a3 dec.length c3) dec,x≠y:=fun x hx y hy e=>by have:=M1 x hx;have:=g3 y hy;omega
 have D23:∀x∈roundK.fp v2 q2,∀y∈intK.fp (.slice a3 dec.length c3) dec,x≠y:=fun x hx y hy e=>by have:=M2 x hx;have:=g3 y hy;omega
 replace o1:=o1.below hb;replace o2:=o2.below hb;replace hW:=hW.trans (hb.mono hW.size);clear hb g3 M1 M2 hs12;obtain⟨s1,t1,rfl⟩:=o1.shape;obtain⟨s2,t2,rfl⟩:=o2.shape;refine⟨_,rfl,hnw _ hW,?_⟩;simp only[Act.put,pjE];refine qta 11 (some 14) (.agg #[.bool has,.slice s1 q1.length t1,.slice s2 q2.length t2,.slice a3 dec.length c3]) 1 (by kernel_rfl) (fun u _=>by kernel_rfl) (hnw _ hW) ?_;simp only[Act.put,pjE];have R3:=R.below hW;refine ona 12 0 rfl (by kernel_rfl) ?_;have hRr:=R3.row #[.bool has,.slice s1 q1.length t1,.slice s2 q2.length t2,.slice a3 dec.length c3];have hou:=z0d w3 (w.heap.size+1) #[.bool has,.slice s1 q1.length t1,.slice s2 q2.length t2,.slice a3 dec.length c3];have hWo:Out [w.heap.size+1] W (w3.setRow (w.heap.size+1) #[.bool has,.slice s1 q1.length t1,.slice s2 q2.length t2,.slice a3 dec.length c3]):=(Out.of_below hW).trans hou;refine z0b (by kernel_rfl) 49 _ _ rfl _ #[.bool has,.slice s1 q1.length t1,.slice s2 q2.length t2,.slice a3 dec.length c3] rfl rfl 49 _ R3 z0k rfl (by simp[Value.oneCell']) ?_
 go_wp2
 refine ThenGo.to ⟨⟨⟨_,hWo⟩,rfl⟩,?_⟩;refine z0n (by kernel_rfl) ?_;have hnm:∀x,W.heap.size≤x→x∉[w.heap.size+1]:=fun x hx=>by simp only[List.mem_singleton];omega
 have o1':=o1.out hou (fun x hx=>hnm x (L1 x hx));have o2':=o2.out hou (fun x hx=>hnm x (L2 x hx));have o3':=o3.out hou (fun x hx=>hnm x (L3 x hx));have hBe:Below w.heap.size w (w3.setRow (w.heap.size+1) #[.bool has,.slice s1 q1.length t1,.slice s2 q2.length t2,.slice a3 dec.length c3]):=z0a (hb0.trans (hW.mono hb0.size)) (by omega) _;clear p0 p1 p2 p3 hnn hnw hc1 hc2 hc3 hou hWo o1 o2 o3 R3;generalize w3.setRow (w.heap.size+1) #[.bool has,.slice s1 q1.length t1,.slice s2 q2.length t2,.slice a3 dec.length c3]=w4 at*;have p0:=hRr.cell 0 _ rfl;have p1:=hRr.cell 1 _ rfl;have p2:=hRr.cell 2 _ rfl;have p3:=hRr.cell 3 _ rfl
 go_wp2
 refine bodyPost_ret (v:=.agg #[.bool has,.slice s1 q1.length t1,.slice s2 q2.length t2,.slice a3 dec.length c3]) (by simp[results,Tryz.results75,go_sem,p0,p1,p2,p3]) rfl ?_;refine⟨⟨has,.slice s1 q1.length t1,q1,.slice s2 q2.length t2,q2,.slice a3 dec.length c3,dec⟩,rfl,?_,⟨o1',o2',o3'⟩,?_,?_,hBe⟩
 ·simp only[InstQ.e,e1,e2]
 ·exact List.nodup_append.2 ⟨n1,List.nodup_append.2 ⟨n2,z0v _ _,D23⟩,fun x hx y hy=>by
   rcases List.mem_append.1 hy with hy|hy
   ·exact D12 x hx y hy
   ·exact D13 x hx y hy⟩
 ·intro x hx;rcases List.mem_append.1 hx with hx|hx
  ·have:=L1 x hx;omega
  ·rcases List.mem_append.1 hx with hx|hx
   ·have:=L2 x hx;omega
   ·have:=L3 x hx;omega
theorem z4e(v:Value)(ps:List InstQ)(w:World)(h:instK.At w v ps)(hlow:(∀p∈ps,(∀t∈p.batch,0<t.acts.length)∧(∀r∈p.rounds,0<r.rep.length∧0<r.pro.length)∧0<p.dec.length))(hl:(ps.length+nmL InstQ.n ps)≤1048576):
  Calls Tryz.prog 39 #[v] w fun e w'=>∃v' qs,e=.returned v'∧qs.map InstQ.e=ps.map InstQ.e∧instK.Own w' v' qs∧(instK.fp v' qs).Nodup∧(∀k∈instK.fp v' qs,w.heap.size≤k)∧Below w.heap.size w w':=by
 obtain⟨a,cap,rfl⟩:=h.shape;obtain⟨i0,hi,hz0,hz1,hz2⟩:=info_parts z01;obtain⟨hn1,hn2⟩:=Kind.own_nil (K:=instK) w;have HN0:Hid ((instK.fp (.slice none 0 0) ([]:List InstQ)).Nodup∧∀k∈instK.fp (.slice none 0 0) ([]:List InstQ),w.heap.size≤k):=by
  rw[hn2];exact⟨by simp,by simp⟩
 have hb0:Below w.heap.size w w:=Below.refl _ _;clear hn2;go_enter Tryz.func39,Tryz.ntmps39
 go_wp2
 go_loopw[3,8] (fun v j wr=>∃ (k:Nat) (qs:List InstQ),k≤ps.length∧j=.int .i64 k∧Hid (qs.map InstQ.e=(ps.take k).map InstQ.e)∧instK.Own wr v qs∧Hid ((instK.fp v qs).Nodup∧∀k∈instK.fp v qs,w.heap.size≤k)∧Below w.heap.size w wr) (fun _ j _=>ps.length-(intOf j).toNat)
 case atStart=>exact⟨0,[],Nat.zero_le _,rfl,(rfl:_=_),hn1,HN0,hb0⟩
 case round=>
  clear HN0 hn1 hb0;obtain⟨k,qs,hk,rfl,HE,hO,HN,hb⟩:=hrel;obtain⟨sa,sc,rfl⟩:=hO.shape;have HQL:Hid (qs.length=k):=by
   have:=congrArg List.length HE.out;rw[List.length_map,List.length_map,List.length_take]at this;show qs.length=k;omega
  by_cases hlt:k<ps.length
  ·obtain⟨b,off,rfl,hbs,hc,hrd⟩:=(h.below hb).cell (by decide) k hlt;have hc':∀j x,(instK.cells ps[k])[j]?=some x→wr.cell? ⟨b,off+k*4+j,none⟩=some x:=hc;have c0:=hc' 0 (.bool ps[k].has) rfl;have c1:=hc' 1 ps[k].vb rfl;have c2:=hc' 2 ps[k].vr rfl;have c3:=hc' 3 ps[k].vd rfl;rw[Nat.add_zero]at c0;have hzl:=z4b InstQ.n ps k hlt;have hlow1:=hlow _ (List.getElem_mem hlt);have HPE:Hid (∀p':InstQ,p'.e=InstQ.e ps[k]→(qs++[p']).map InstQ.e=(ps.take (k+1)).map InstQ.e):=fun p' hp'=>by
    rw[List.take_succ_eq_append_getElem hlt,List.map_append,List.map_append,HE.out,List.map_singleton,List.map_singleton,hp']
   clear hc hc';have hcl0:=z2R ps[k];have hcl:=fun w h=>hcl0 w h (by omega) hlow1.1 hlow1.2.1 hlow1.2.2
   clear hcl0 HE;generalize ps[k]=p at*;obtain⟨has,vb,batch,vr,rounds,vd,dec⟩:=p;obtain⟨ba,bk,rfl⟩:∃a c,vb=.slice a batch.length c:=hrd.1.shape;obtain⟨va,vk,rfl⟩:∃a c,vr=.slice a rounds.length c:=hrd.2.1.shape;obtain⟨da,dk,rfl⟩:∃a c,vd=.slice a dec.length c:=hrd.2.2.shape;dsimp only at c0 c1 c2 c3 hcl;have hbY:Below wr.heap.size wr (wr.alloc (.cells #[.bool has,.slice ba batch.length bk,.slice va rounds.length vk,.slice da dec.length dk] 49)):=by go_grown
   have rdY:=instK.rd_below hrd hbY;replace hO:=hO.below hbY;replace hb:=hb.trans (hbY.mono hb.size)
   go_wp2_with fail
   clear c0 c1 c2 c3 hbY;generalize wr.alloc (.cells #[.bool has,.slice ba batch.length bk,.slice va rounds.length vk,.slice da dec.length dk] 49)=Y at*;have HLT:Hid (∀x∈instK.fp (.slice sa qs.length sc) qs,x<Y.heap.size):=hO.lt;have HYS:Hid (w.heap.size≤Y.heap.size):=hb.size;refine(hcl Y rdY).mono ?_;rintro e w2 ⟨q,rfl,eq,oq,nq,gq,hb2⟩;replace hO:=hO.below hb2;replace hb:=hb.trans (hb2.mono hb.size);have h2s:=hb2.size;clear hcl hb2;obtain⟨qh,qvb,qb,qvr,qr,qvd,qd⟩:=q;obtain⟨x1,y1,rfl⟩:∃a c,qvb=.slice a qb.length c:=oq.1.shape;obtain⟨x2,y2,rfl⟩:∃a c,qvr=.slice a qr.length c:=oq.2.1.shape;obtain⟨x3,y3,rfl⟩:∃a c,qvd=.slice a qd.length c:=oq.2.2.shape;have hbA:Below w2.heap.size w2 (w2.alloc (.cells #[.bool qh,.slice x1 qb.length y1,.slice x2 qr.length y2,.slice x3 qd.length y3] 49)):=by go_grown
   have hOA:=hO.below hbA;have hPA:=instK.own_out (F:=[]) oq (Out.of_below hbA) (fun _ _=>by simp);have hbB:=hb.trans (hbA.mono hb.size);have hYA:Y.heap.size≤(w2.alloc (.cells #[.bool qh,.slice x1 qb.length y1,.slice x2 qr.length y2,.slice x3 qd.length y3] 49)).heap.size:=by have:=hbA.size;omega
   clear hO oq;have hrow0:=hOA.1
   go_wp2_with (at_builtin;refine wpList_append_own_at _ rfl _ _ 24 rfl 0 49 i0 (.agg #[.bool false,.slice none 0 0,.slice none 0 0,.slice none 0 0]) 4 80 Tryz.underlying24 hi hz0 hz1 hz2 rfl (by decide) _ qs.length (instK.row qs) rfl hrow0 ⟨w2.heap.size,0,none⟩ 1 1 [.bool qh,.slice x1 qb.length y1,.slice x2 qr.length y2,.slice x3 qd.length y3] rfl rfl ?c1 ?c2 ?c3 ?c4 ?c5 ?_)
   all_goals try(case c1=>intro j u hj;match j,hj with|0,hj=>simp at hj;subst hj;simp[Addr.add]|1,hj=>simp at hj;subst hj;simp[Addr.add]|2,hj=>simp at hj;subst hj;simp[Addr.add]|3,hj=>simp at hj;subst hj;simp[Addr.add])
   all_goals try(case c2=>intro u hu;simp at hu;rcases hu with rfl|rfl|rfl|rfl<;>rfl)
   all_goals try(case c3=>have:=HQL.out;unfold maxLen;omega)
   all_goals try(case c4=>have:=HQL.out;omega)
   all_goals try(case c5=>first|omega|simp)
   intro v' w5 hown hgrow hnil hat;clear hnil hrow0;rw[show w2.heap.size+1=(w2.alloc (.cells #[.bool qh,.slice x1 qb.length y1,.slice x2 qr.length y2,.slice x3 qd.length y3] 49)).heap.size from(World.size_alloc _ _).symm]at hat;generalize hwA:w2.alloc (.cells #[.bool qh,.slice x1 qb.length y1,.slice x2 qr.length y2,.slice x3 qd.length y3] 49)=WA at*;clear hwA;obtain⟨hO5,hn5,hlo5,hou⟩:=hOA.snoc (p:=(⟨qh,.slice x1 qb.length y1,qb,.slice x2 qr.length y2,qr,.slice x3 qd.length y3,qd⟩:InstQ)) HN.out.1 HN.out.2 hPA nq (fun x hx hx'=>by have:=HLT.out x hx';have:=gq x hx;omega) (fun x hx=>by have:=gq x hx;have:=HYS.out;omega) hbB.size hown hgrow hat;have hb5:Below w.heap.size w w5:=Out.keep hbB hou hbB.size (fun x hx=>HN.out.2 x (by simp only[Kind.fp,List.mem_append];exact Or.inl hx));have HE5:Hid ((qs++[(⟨qh,.slice x1 qb.length y1,qb,.slice x2 qr.length y2,qr,.slice x3 qd.length y3,qd⟩:InstQ)]).map InstQ.e=(ps.take (k+1)).map InstQ.e):=HPE.out _ eq;have HN5:Hid ((instK.fp v' (qs++[(⟨qh,.slice x1 qb.length y1,qb,.slice x2 qr.length y2,qr,.slice x3 qd.length y3,qd⟩:InstQ)])).Nodup∧∀k∈instK.fp v' (qs++[(⟨qh,.slice x1 qb.length y1,qb,.slice x2 qr.length y2,qr,.slice x3 qd.length y3,qd⟩:InstQ)]),w.heap.size≤k):=⟨hn5,hlo5⟩
   clear HPE HN HLT HYS hPA hOA hbB hown hgrow hat hou hn5 hlo5 hrd hb hbA hzl hlow1 hYA gq nq eq
   go_wp2
   go_roundw
   case rel=>exact⟨k+1,_,by omega,by go_num,HE5,hO5,HN5,hb5⟩
   case measure=>simp[intOf];omega
  ·have hkl:k=ps.length:=by omega
   subst hkl;have hE:=HE.out;rw[List.take_length]at hE;clear HE
   go_wp2
   go_ret;exact⟨_,qs,rfl,hE,hO,HN.out.1,HN.out.2,hb⟩
def z0F:InstE:=⟨false,[],[],[]⟩
def z1i:List InstE→Int
 |[]=>0
 |x::r=>if insF x=0 then(if 0<r.length∧outV x.dec=3 then 8 else z1i r)else insF x
def ordF(ds:List InstE):Int:=if ds.length<1∨4<ds.length then 2 else z1i ds
def z9F(ds:List InstE):InstE:=ds.getD (ds.length-1) z0F
def decN(ds:List InstE):Nat:=if outV (z9F ds).dec=3 then ds.length-1 else ds.length
theorem z55(ds:List InstE)(k:Nat)(hk:k<ds.length):ds.drop k=ds.getD k z0F::ds.drop (k+1):=by
 rw[List.drop_eq_getElem_cons hk];simp[List.getD,hk]
theorem z5w(ds:List InstE)(k:Nat)(hk:k<ds.length)(h:insF (ds.getD k z0F)≠0):z1i (ds.drop k)=insF (ds.getD k z0F):=by
 rw[z55 ds k hk,z1i,if_neg h]
theorem z4u(ds:List InstE)(k:Nat)(hk:k+1<ds.length)(h:insF (ds.getD k z0F)=0)(h3:outV (ds.getD k z0F).dec=3):z1i (ds.drop k)=8:=by
 rw[z55 ds k (by omega),z1i,if_pos h,if_pos ⟨by simp;omega,h3⟩]
theorem z4v(ds:List InstE)(k:Nat)(hk:k<ds.length)(h:insF (ds.getD k z0F)=0)(h3:¬(k+1<ds.length∧outV (ds.getD k z0F).dec=3)):z1i (ds.drop k)=z1i (ds.drop (k+1)):=by
 rw[z55 ds k hk,z1i,if_pos h,if_neg];rintro⟨h1,h2⟩;exact h3 ⟨by simp at h1;omega,h2⟩
theorem z5x(ds:List InstE)(k:Nat)(hk:ds.length≤k):z1i (ds.drop k)=0:=by
 rw[List.drop_of_length_le hk];rfl
theorem z3W:∀ (ds:List InstE),z1i ds=0↔∀k,k<ds.length→insF (ds.getD k z0F)=0∧(k+1<ds.length→outV (ds.getD k z0F).dec≠3)
 |[]=>by simp[z1i]
 |x::r=>by
  rw[z1i];constructor
  ·intro h k hk;by_cases h0:insF x=0
   ·rw[if_pos h0]at h;by_cases h1:0<r.length∧outV x.dec=3
    ·rw[if_pos h1]at h;exact absurd h (by decide)
    ·rw[if_neg h1]at h
     cases k with
     |zero=>exact⟨h0,fun hl h3=>h1 ⟨by simpa using hl,h3⟩⟩
     |succ k=>
      have:=(z3W r).1 h k (by simpa using hk);simp only[List.getD_cons_succ,List.length_cons];exact⟨this.1,fun hl=>this.2 (by omega)⟩
   ·rw[if_neg h0]at h;exact absurd h h0
  ·intro h;have h0:=h 0 (by simp);have e0:insF x=0:=h0.1;rw[if_pos e0,if_neg (fun e=>h0.2 (by simpa using e.1) e.2)];refine(z3W r).2 (fun k hk=>?_);have:=h (k+1) (by simpa using hk);simp only[List.getD_cons_succ,List.length_cons]at this;exact⟨this.1,fun hl=>this.2 (by omega)⟩
theorem z06(ds:List InstE):ordF ds=0↔(1≤ds.length∧ds.length≤4)∧∀k,k<ds.length→insF (ds.getD k z0F)=0∧(k+1<ds.length→outV (ds.getD k z0F).dec≠3):=by
 unfold ordF;by_cases h:ds.length<1∨4<ds.length
 ·rw[if_pos h];constructor
  ·intro h;exact absurd h (by decide)
  ·rintro⟨h1,_⟩;omega
 ·rw[if_neg h,z3W];constructor
  ·intro h2;exact⟨by omega,h2⟩
  ·rintro⟨_,h2⟩;exact h2
theorem z1L{ds:List InstE}(h:ordF ds=0):∀x∈ds,insF x=0:=by
 intro x hx;obtain⟨k,hk,rfl⟩:=List.getElem_of_mem hx;have:=(((z06 ds).1 h).2 k hk).1;simpa[List.getD,hk]using this
theorem z3X(ds:List InstE):decN ds≤ds.length:=by
 unfold decN;split<;>omega
theorem z9G{ds:List InstE}(h:ordF ds=0)(k:Nat)(hk:k<decN ds):outV (ds.getD k z0F).dec≠3:=by
 obtain⟨hl,ha⟩:=(z06 ds).1 h;unfold decN at hk;split at hk
 ·exact(ha k (by omega)).2 (by omega)
 ·rename_i h3
  by_cases hkl:k+1<ds.length
  ·exact(ha k hk).2 hkl
  ·have:k=ds.length-1:=by omega
   subst this;exact h3
def stF(a b:TxnD):Bool:=(a.id==b.id)||((a.session==b.session) && (a.seq==b.seq))
def knw(acc:List TxnD)(t:TxnD):Bool:=acc.any (fun a=>stF a t)
def onc:List TxnD→List TxnD→List TxnD
 |acc,[]=>acc
 |acc,t::r=>onc (if knw acc t then acc else acc++[t]) r
def z2D(ds:List InstE):List TxnD:=ds.flatMap (fun x=>if outV x.dec=1 then x.batch else [])
def defL(ds:List InstE)(n:Nat):List TxnD:=onc [] (z2D (ds.take n))
theorem z1e:∀ (xs ys acc:List TxnD),onc acc (xs++ys)=onc (onc acc xs) ys
 |[],_,_=>rfl
 |t::r,ys,acc=>by
  simp only[List.cons_append,onc];exact z1e r ys _
theorem z7Z:∀ (xs acc:List TxnD),∃zs,onc acc xs=acc++zs
 |[],acc=>⟨[],by simp[onc]⟩
 |t::r,acc=>by
  simp only[onc];obtain⟨zs,e⟩:=z7Z r (if knw acc t then acc else acc++[t]);rw[e];split
  ·exact⟨zs,rfl⟩
  ·exact⟨t::zs,by simp⟩
theorem z56:∀ (xs acc:List TxnD),∀t∈onc acc xs,t∈acc∨t∈xs
 |[],acc,t,h=>Or.inl h
 |x::r,acc,t,h=>by
  simp only[onc]at h;rcases z56 r _ t h with h|h
  ·split at h
   ·exact Or.inl h
   ·rcases List.mem_append.1 h with h|h
    ·exact Or.inl h
    ·simp only[List.mem_singleton]at h;exact Or.inr (by rw[h];simp)
  ·exact Or.inr (List.mem_cons_of_mem _ h)
theorem z4Q(xs acc:List TxnD):(onc acc xs).length≤acc.length+xs.length:=by
 induction xs generalizing acc with
 |nil=>simp[onc]
 |cons t r ih=>
  simp only[onc,List.length_cons];have:=ih (if knw acc t then acc else acc++[t]);split at this
  ·rename_i h;rw[if_pos h];omega
  ·rename_i h;rw[if_neg h];simp only[List.length_append,List.length_singleton]at this;omega
theorem z9H(ds:List InstE)(n m:Nat)(h:n≤m):∃zs,defL ds m=defL ds n++zs:=by
 have e:ds.take m=ds.take n++(ds.take m).drop n:=by
  have:=(List.take_append_drop n (ds.take m)).symm
  rwa [List.take_take,Nat.min_eq_left h]at this
 unfold defL;rw[e];unfold z2D;rw[List.flatMap_append,z1e];exact z7Z _ _
theorem z9I(c v:Int)(w:World):(Instr.field 38 (.agg #[.int .i64 c,.int .i64 v]) 0).run Tryz.prog w=.ok (.int .i64 c) w:=by kernel_rfl
theorem z9J(c v:Int)(w:World):(Instr.field 38 (.agg #[.int .i64 c,.int .i64 v]) 1).run Tryz.prog w=.ok (.int .i64 v) w:=by kernel_rfl
theorem q0o(x:InstE):(ocC x==0)=((insF x==0) && (outV x.dec !=3)):=by
 unfold ocC;by_cases h0:insF x=0
 ·rw[if_pos h0,h0];by_cases h3:outV x.dec=3
  ·rw[if_pos h3,h3];rfl
  ·rw[if_neg h3];have:(outV x.dec !=3)=true:=by simpa using h3
   rw[this];rfl
 ·rw[if_neg h0];have:(insF x==0)=false:=by simpa using h0
  rw[this];rfl
theorem z3Y(ps:List InstQ)(k:Nat)(hk:k<ps.length):(ps.map InstQ.e).getD k z0F=InstQ.e ps[k]:=by simp[List.getD,hk]
theorem z4w(ps:List InstQ)(k:Nat)(hk:k<ps.length):InstQ.n ps[k]≤nmL InstQ.n ps:=z4b InstQ.n ps k hk
theorem z4R{w:World}{a:Option Addr}{n cap:Nat}{ps:List InstQ}(h:instK.At w (.slice a n cap) ps)(k:Nat)(hk:k<ps.length):∃b off,a=some ⟨b,off,none⟩∧b<w.heap.size∧InstP w b (off+k*4) ps[k]:=by
 obtain⟨b,off,e,hb,hc,hrd⟩:=h.cell (by decide) k hk;have hc':∀j x,(instK.cells ps[k])[j]?=some x→w.cell? ⟨b,off+k*4+j,none⟩=some x:=hc;exact⟨b,off,e,hb,⟨hc' 0 (.bool ps[k].has) rfl,hc' 1 ps[k].vb rfl,hc' 2 ps[k].vr rfl,hc' 3 ps[k].vd rfl⟩,hrd⟩
theorem z2c(p:InstQ)(w:World)(hG:Rul w)(h:instK.rd w p)(hl:p.n≤1048576):
  Calls Tryz.prog 43 #[.agg #[.bool p.has,p.vb,p.vr,p.vd]] w fun e w'=>e=.returned (.bool (ocC p.e==0))∧Below w.heap.size w w':=by
 have hbo:=fun w hG h=>z10 p w hG h hl
 have hrb:=fun(w':World) hb=>instK.rd_below (w':=w') h hb
 generalize ocC p.e=D at*;generalize ocV p.e=E at*;obtain⟨has,vb,batch,vr,rounds,vd,dec⟩:=p;obtain⟨ba,bk,rfl⟩:∃a c,vb=.slice a batch.length c:=h.1.shape;obtain⟨va,vk,rfl⟩:∃a c,vr=.slice a rounds.length c:=h.2.1.shape;obtain⟨da,dk,rfl⟩:∃a c,vd=.slice a dec.length c:=h.2.2.shape;dsimp only at hbo hrb;have hf0:=z9I D E;have hB:Below w.heap.size w (w.alloc (.cells #[.bool has,.slice ba batch.length bk,.slice va rounds.length vk,.slice da dec.length dk] 49)):=by go_grown
 go_enter Tryz.func43,Tryz.ntmps43
 go_wp2_with fail
 generalize w.alloc (.cells #[.bool has,.slice ba batch.length bk,.slice va rounds.length vk,.slice da dec.length dk] 49)=W at*;refine(hbo W (hG.below hB) (hrb W hB)).mono ?_;rintro e w1 ⟨rfl,hb1⟩;replace hB:=hB.trans (hb1.mono hB.size)
 go_wp2
 go_ret;exact⟨rfl,hB⟩
theorem z02(v:Value)(ps:List InstQ)(w:World)(hG:Rul w)(h:instK.At w v ps)(hl:(ps.length+nmL InstQ.n ps)≤1048576):
  Calls Tryz.prog 15 #[v] w fun e w'=>e=.returned (.int .i64 (ordF (ps.map InstQ.e)))∧Below w.heap.size w w':=by
 obtain⟨a,cap,rfl⟩:=h.shape;generalize hE:ordF (ps.map InstQ.e)=E;have HE:Hid (ordF (ps.map InstQ.e)=E):=hE;clear hE;by_cases hlen:ps.length<1∨4<ps.length
 ·have E1:Hid (E=2):=by
   have:=HE.out;unfold ordF at this;rw[if_pos (by simpa using hlen)]at this;exact this.symm
  clear HE;rcases hlen with hlen|hlen
  ·go_enter Tryz.func15,Tryz.ntmps15
   go_wp2
   go_ret;exact⟨by rw[E1.out];rfl,Below.refl _ _⟩
  ·have h1:¬ps.length<1:=by omega
   go_enter Tryz.func15,Tryz.ntmps15
   go_wp2
   go_ret;exact⟨by rw[E1.out];rfl,Below.refl _ _⟩
 ·have HG:Hid (E=z1i (ps.map InstQ.e)):=by
   have:=HE.out;unfold ordF at this;rw[if_neg (by simpa using hlen)]at this;exact this.symm
  have h1:¬ps.length<1:=by omega
  have h4:ps.length≤4:=by omega
  clear HE hlen;go_enter Tryz.func15,Tryz.ntmps15
  go_wp2
  go_loopw[16] (fun i wr=>∃k:Nat,k≤ps.length∧i=.int .i64 k∧Hid (E=z1i ((ps.map InstQ.e).drop k))∧Below w.heap.size w wr) (fun i _=>ps.length-(intOf i).toNat)
  case atStart=>exact⟨0,Nat.zero_le _,rfl,HG,Below.refl _ _⟩
  case round=>
   clear HG;obtain⟨k,hk,rfl,HG,hb⟩:=hrel;by_cases hlt:k<ps.length
   ·have hat:=z3Y ps k hlt;have HBAD:Hid (insF (InstQ.e ps[k])≠0→E=insF (InstQ.e ps[k])):=fun hx=>by
     rw[HG.out,z5w _ k (by simpa using hlt) (by rw[hat];exact hx),hat]
    have HOPN:Hid (k+1<ps.length→insF (InstQ.e ps[k])=0→outV (InstQ.e ps[k]).dec=3→E=8):=fun h1 h2 h3=>by
     rw[HG.out,z4u _ k (by simpa using h1) (by rw[hat];exact h2) (by rw[hat];exact h3)]
    have HNXT:Hid (insF (InstQ.e ps[k])=0→¬(k+1<ps.length∧outV (InstQ.e ps[k]).dec=3)→E=z1i ((ps.map InstQ.e).drop (k+1))):=fun h2 h3=>by
     rw[HG.out,z4v _ k (by simpa using hlt) (by rw[hat];exact h2) (by rw[hat];simpa using h3)]
    have hn:InstQ.n ps[k]≤1048576:=by have:=z4w ps k hlt;omega
    have hif0:=z1Z ps[k];have hho0:=z2c ps[k];have hif:=fun w hG h=>hif0 w hG h hn
    have hho:=fun w hG h=>hho0 w hG h hn
    clear hif0 hho0;have hoc:=q0o (InstQ.e ps[k]);clear hat HG;obtain⟨b,off,rfl,hbs,hc,hrd⟩:=(h.below hb).cell (by decide) k hlt;have hc':∀j x,(instK.cells ps[k])[j]?=some x→wr.cell? ⟨b,off+k*4+j,none⟩=some x:=hc;have c0:=hc' 0 (.bool ps[k].has) rfl;have c1:=hc' 1 ps[k].vb rfl;have c2:=hc' 2 ps[k].vr rfl;have c3:=hc' 3 ps[k].vd rfl;rw[Nat.add_zero]at c0;clear hc hc';have hrb:=fun(w':World) hb=>instK.rd_below (w':=w') hrd hb
    generalize ocC (InstQ.e ps[k])=OC at*;generalize outV (InstQ.e ps[k]).dec=OV at*;generalize insF (InstQ.e ps[k])=C at*;generalize ps[k]=p at*;obtain⟨has,vb,batch,vr,rounds,vd,dec⟩:=p;obtain⟨ba,bk,rfl⟩:∃a c,vb=.slice a batch.length c:=hrd.1.shape;obtain⟨va,vk,rfl⟩:∃a c,vr=.slice a rounds.length c:=hrd.2.1.shape;obtain⟨da,dk,rfl⟩:∃a c,vd=.slice a dec.length c:=hrd.2.2.shape;dsimp only at c0 c1 c2 c3 hif hho hrb;have hB1:Below wr.heap.size wr (wr.alloc (.cells #[.bool has,.slice ba batch.length bk,.slice va rounds.length vk,.slice da dec.length dk] 49)):=by go_grown
    have Bk:=Blk.new wr 49 #[.bool has,.slice ba batch.length bk,.slice va rounds.length vk,.slice da dec.length dk];have rd1:=hrb _ hB1
    go_wp2_with fail
    generalize wr.alloc (.cells #[.bool has,.slice ba batch.length bk,.slice va rounds.length vk,.slice da dec.length dk] 49)=W1 at*;refine(hif W1 (hG.below (hb.trans (hB1.mono hb.size))) rd1).mono ?_;rintro e w2 ⟨rfl,hb2⟩;have rd2:=instK.rd_below rd1 hb2;replace Bk:=Bk.below hb2;replace hb:=(hb.trans (hB1.mono hb.size)).trans (hb2.mono (hb.trans (hB1.mono hb.size)).size);clear hB1 hb2 rd1 hif c0 c1 c2 c3 hrb;by_cases hC:C=0
    ·subst hC;by_cases hk1:k+1<ps.length
     ·have hk2:(k:Int)<(ps.length:Int)-1:=by omega
      have p0:=Bk.cell 0 _ rfl;have p1:=Bk.cell 1 _ rfl;have p2:=Bk.cell 2 _ rfl;have p3:=Bk.cell 3 _ rfl
      go_wp2_with fail
      refine(hho w2 (hG.below hb) rd2).mono ?_;rintro e w3 ⟨rfl,hb3⟩;replace hb:=hb.trans (hb3.mono hb.size);clear hb3 hho p0 p1 p2 p3 Bk rd2;by_cases hO:OV=3
      ·have e1:(OC==0)=false:=by rw[hoc,hO];rfl
       have E1:Hid (E=8):=HOPN.out hk1 (by simp) hO;clear hoc HOPN HNXT HBAD
       go_wp2
       go_ret;exact⟨by rw[E1.out];rfl,hb⟩
      ·have e1:(OC==0)=true:=by
        rw[hoc];have:(OV !=3)=true:=by simpa using hO
        rw[this];rfl
       have E1:Hid (E=z1i ((ps.map InstQ.e).drop (k+1))):=HNXT.out (by simp) (fun h=>hO h.2);clear hoc HOPN HNXT HBAD
       go_wp2
       go_roundw
       case rel=>exact⟨k+1,by omega,by go_num,E1.out,hb⟩
       case measure=>simp[intOf];omega
     ·have hk2:¬(k:Int)<(ps.length:Int)-1:=by omega
      have E1:Hid (E=z1i ((ps.map InstQ.e).drop (k+1))):=HNXT.out (by simp) (fun h=>hk1 h.1);clear hoc HOPN HNXT HBAD hho
      go_wp2
      go_roundw
      case rel=>exact⟨k+1,by omega,by go_num,E1.out,hb⟩
      case measure=>simp[intOf];omega
    ·have hC':(C !=0)=true:=by simpa using hC
     have E1:Hid (E=C):=HBAD.out hC;clear hoc HOPN HNXT HBAD hho
     go_wp2
     go_ret;exact⟨by rw[E1.out];rfl,hb⟩
   ·have E1:Hid (E=0):=by rw[HG.out];exact z5x _ k (by simp;omega)
    clear HG
    go_wp2
    go_ret;exact⟨by rw[E1.out];rfl,hb⟩
theorem z1M(v:Value)(ps:List InstQ)(w:World)(h:instK.At w v ps)(hl:(ps.length+nmL InstQ.n ps)≤1048576):
  Calls Tryz.prog 44 #[v] w fun e w'=>e=.returned (.int .i64 (ordF (ps.map InstQ.e)))∧Below w.heap.size w w':=by
 obtain⟨a,cap,rfl⟩:=h.shape;generalize hE:ordF (ps.map InstQ.e)=E;have HE:Hid (ordF (ps.map InstQ.e)=E):=hE;clear hE;by_cases hlen:ps.length<1∨4<ps.length
 ·have E1:Hid (E=2):=by
   have:=HE.out;unfold ordF at this;rw[if_pos (by simpa using hlen)]at this;exact this.symm
  clear HE;rcases hlen with hlen|hlen
  ·go_enter Tryz.func44,Tryz.ntmps44
   go_wp2
   go_ret;exact⟨by rw[E1.out];rfl,Below.refl _ _⟩
  ·have h1:¬ps.length<1:=by omega
   go_enter Tryz.func44,Tryz.ntmps44
   go_wp2
   go_ret;exact⟨by rw[E1.out];rfl,Below.refl _ _⟩
 ·have HG:Hid (E=z1i (ps.map InstQ.e)):=by
   have:=HE.out;unfold ordF at this;rw[if_neg (by simpa using hlen)]at this;exact this.symm
  have h1:¬ps.length<1:=by omega
  have h4:ps.length≤4:=by omega
  clear HE hlen;go_enter Tryz.func44,Tryz.ntmps44
  go_wp2
  go_loopw[3] (fun i wr=>∃k:Nat,k≤ps.length∧i=.int .i64 k∧Hid (E=z1i ((ps.map InstQ.e).drop k))∧Below w.heap.size w wr) (fun i _=>ps.length-(intOf i).toNat)
  case atStart=>exact⟨0,Nat.zero_le _,rfl,HG,Below.refl _ _⟩
  case round=>
   clear HG;obtain⟨k,hk,rfl,HG,hb⟩:=hrel;by_cases hlt:k<ps.length
   ·have hat:=z3Y ps k hlt;have HBAD:Hid (insF (InstQ.e ps[k])≠0→E=insF (InstQ.e ps[k])):=fun hx=>by
     rw[HG.out,z5w _ k (by simpa using hlt) (by rw[hat];exact hx),hat]
    have HOPN:Hid (k+1<ps.length→insF (InstQ.e ps[k])=0→outV (InstQ.e ps[k]).dec=3→E=8):=fun h1 h2 h3=>by
     rw[HG.out,z4u _ k (by simpa using h1) (by rw[hat];exact h2) (by rw[hat];exact h3)]
    have HNXT:Hid (insF (InstQ.e ps[k])=0→¬(k+1<ps.length∧outV (InstQ.e ps[k]).dec=3)→E=z1i ((ps.map InstQ.e).drop (k+1))):=fun h2 h3=>by
     rw[HG.out,z4v _ k (by simpa using hlt) (by rw[hat];exact h2) (by rw[hat];simpa using h3)]
    obtain⟨b,off,rfl,hbs,hP⟩:=z4R (h.below hb) k hlt;have hn:InstQ.n ps[k]≤1048576:=by have:=z4w ps k hlt;omega
    have hif0:=z5W b (off+k*4) ps[k];have hho0:=z0L b (off+k*4) ps[k];have hif:=fun w hP=>hif0 w hP hn
    have hho:=fun w hP=>hho0 w hP hn
    clear hif0 hho0;have ho2:outV (InstQ.e ps[k]).dec=outV ps[k].dec:=rfl;rw[ho2]at HOPN HNXT;clear hat HG ho2;generalize outV ps[k].dec=OV at*;generalize insF (InstQ.e ps[k])=C at*;generalize ps[k]=p at*
    go_wp2_with fail
    refine(hif wr hP).mono ?_;rintro e w2 ⟨rfl,hb2⟩;replace hP:=hP.below hb2;replace hb:=hb.trans (hb2.mono hb.size);clear hb2 hif;by_cases hC:C=0
    ·subst hC;by_cases hk1:k+1<ps.length
     ·have hk2:(k:Int)<(ps.length:Int)-1:=by omega
      go_wp2_with fail
      refine(hho w2 hP).mono ?_;rintro e w3 ⟨rfl,hw⟩;replace hw:=hw.symm;subst hw;clear hho hP;by_cases hO:OV=3
      ·have E1:Hid (E=8):=HOPN.out hk1 (by simp) hO;have hO':(OV==3)=true:=by simpa using hO
       clear HOPN HNXT HBAD hO
       go_wp2
       go_ret;exact⟨by rw[E1.out];rfl,hb⟩
      ·have hO':(OV==3)=false:=by simpa using hO
       have E1:Hid (E=z1i ((ps.map InstQ.e).drop (k+1))):=HNXT.out (by simp) (fun h=>hO h.2);clear HOPN HNXT HBAD hO
       go_wp2
       go_roundw
       case rel=>exact⟨k+1,by omega,by go_num,E1.out,hb⟩
       case measure=>simp[intOf];omega
     ·have hk2:¬(k:Int)<(ps.length:Int)-1:=by omega
      have E1:Hid (E=z1i ((ps.map InstQ.e).drop (k+1))):=HNXT.out (by simp) (fun h=>hk1 h.1);clear HOPN HNXT HBAD hho
      go_wp2
      go_roundw
      case rel=>exact⟨k+1,by omega,by go_num,E1.out,hb⟩
      case measure=>simp[intOf];omega
    ·have hC':(C !=0)=true:=by simpa using hC
     have E1:Hid (E=C):=HBAD.out hC;clear HOPN HNXT HBAD hho
     go_wp2
     go_ret;exact⟨by rw[E1.out];rfl,hb⟩
   ·have E1:Hid (E=0):=by rw[HG.out];exact z5x _ k (by simp;omega)
    clear HG
    go_wp2
    go_ret;exact⟨by rw[E1.out];rfl,hb⟩
theorem z2z(v:Value)(ps:List InstQ)(w:World)(h:instK.At w v ps)(hl:(ps.length+nmL InstQ.n ps)≤1048576):
  Calls Tryz.prog 19 #[v] w fun e w'=>e=.returned (.int .i64 (ordF (ps.map InstQ.e)))∧Below w.heap.size w w':=by
 have hf:=z1M v ps w h hl;obtain⟨a,cap,rfl⟩:=h.shape;generalize ordF (ps.map InstQ.e)=E at*;go_enter Tryz.func19,Tryz.ntmps19
 go_wp2_with fail
 refine hf.mono ?_;rintro e w2 ⟨rfl,hb2⟩
 go_wp2
 go_ret;exact⟨rfl,hb2⟩
section
open Go.Deep Go.ChangeShapes Go.WideShapes
end
section
open Go.ChangeShapes Go.WideShapes
theorem gRul : Tryz.prog.globalNamed "loop.example/g00631/impl.rules" = some 1 := by kernel_rfl
theorem tRul:(Tryz.prog.globals[1]?).map (·.type)=some 227:=by kernel_rfl
theorem q0p:Tryz.prog.cellsOf 219=7:=by kernel_rfl
theorem cCh:Tryz.prog.cellsOf 58=4:=by kernel_rfl
theorem cI:Tryz.prog.cellsOf 2=1:=by kernel_rfl
theorem cB:Tryz.prog.cellsOf 4=1:=by kernel_rfl
section
variable {H:Type} {enc:TypeId × Value→H} {w:World} {base:Nat} {spare:Nat→Bool} {held:Bool}
theorem z5y{fuel:Nat}{cs:List Value}{c v:Int}{d k:Bool}{q:List MemPlace}(h:DataW.trod enc Tryz.prog w base spare held fuel 58 cs=some (.agg [.lit (.int .i64 c),.lit (.bool d),.lit (.bool k),.lit (.int .i64 v)],q)):cs=[.int .i64 c,.bool d,.bool k,.int .i64 v]:=by
 obtain⟨y0,y1,y2,y3,n,hx,hl,h0,h1,h2,h3⟩:=Go.Joins.trod_struct4 Tryz.underlying58 h;rw[cCh]at hl;simp only[Prod.mk.injEq,DataW.agg.injEq,List.cons.injEq,and_true]at hx;obtain⟨⟨x0,x1,x2,x3⟩,_⟩:=hx
 match cs,hl with
 |[c0,c1,c2,c3],_=>
  simp only[cI,cB,List.drop_zero,List.drop_succ_cons,List.take_succ_cons,List.take_zero]at h0 h1 h2 h3;obtain⟨n0,e0,g0,_⟩:=DataW.trod_int Tryz.underlying2 h0;obtain⟨n1,e1,g1⟩:=DataW.trod_bool Tryz.underlying4 h1;obtain⟨n2,e2,g2⟩:=DataW.trod_bool Tryz.underlying4 h2;obtain⟨n3,e3,g3,_⟩:=DataW.trod_int Tryz.underlying2 h3;simp only[List.cons.injEq,and_true]at e0 e1 e2 e3;rw[g0]at x0;rw[g1]at x1;rw[g2]at x2;rw[g3]at x3;simp at x0 x1 x2 x3;rw[e0,e1,e2,e3,x0,x1,x2,x3]
theorem z1A{fuel:Nat}{cs:List Value}{z o p c v:Int}{d k:Bool}{q:List MemPlace}(h:DataW.trod enc Tryz.prog w base spare held fuel 219 cs=some (.agg [.lit (.int .i64 z),.lit (.int .i64 o),.lit (.int .i64 p),.agg [.lit (.int .i64 c),.lit (.bool d),.lit (.bool k),.lit (.int .i64 v)]],q)):
  cs=[.int .i64 z,.int .i64 o,.int .i64 p,.int .i64 c,.bool d,.bool k,.int .i64 v]:=by
 obtain⟨y0,y1,y2,y3,n,hx,hl,h0,h1,h2,h3⟩:=Go.Joins.trod_struct4 Tryz.underlying219 h;rw[q0p]at hl;simp only[Prod.mk.injEq,DataW.agg.injEq,List.cons.injEq,and_true]at hx;obtain⟨⟨x0,x1,x2,x3⟩,_⟩:=hx
 match cs,hl with
 |[c0,c1,c2,c3,c4,c5,c6],_=>
  simp only[cI,cCh,List.drop_zero,List.drop_succ_cons,List.take_succ_cons,List.take_zero]at h0 h1 h2 h3;obtain⟨n0,e0,g0,_⟩:=DataW.trod_int Tryz.underlying2 h0;obtain⟨n1,e1,g1,_⟩:=DataW.trod_int Tryz.underlying2 h1;obtain⟨n2,e2,g2,_⟩:=DataW.trod_int Tryz.underlying2 h2;obtain⟨y30,y31⟩:=y3;dsimp only at x3;rw[←x3]at h3;have e3:=z5y h3;simp only[List.cons.injEq,and_true]at e0 e1 e2 e3;rw[g0]at x0;rw[g1]at x1;rw[g2]at x2;simp at x0 x1 x2;obtain⟨e3,e4,e5,e6⟩:=e3;rw[e0,e1,e2,e3,e4,e5,e6,x0,x1,x2]
end
end
end Go.Proofs.YtfpponhjhbfbeaaGreatDoor

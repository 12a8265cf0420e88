/- Texts joined,with what the laws reach alone. -/
import Derived.Test.YtciofogeiohleaaGreatDoorCOAQ
import Derived.Test.YtciofogeiohleaaGreatDoorCOAO
set_option linter.unusedVariables false
set_option linter.unusedSimpArgs false
set_option maxRecDepth 100000
set_option maxHeartbeats 16000000
namespace Go.Proofs.YtciofogeiohleaaGreatDoor
open Go.RowKit Go.BigFrame
theorem z9w{P:Type}{K:Kind P}{v:Value}{ps:List P}(h:(K.fp v ps).Nodup)(i:Nat)(hi:i<ps.length):(K.foot ps[i]).Nodup:=by
 have e:ps=ps.take i++ps[i]::ps.drop (i+1):=by
  conv=>lhs;rw[←List.take_append_drop i ps,List.drop_eq_getElem_cons hi]
 have hA:K.fp v ps=blk v++((ps.take i).flatMap K.foot++(K.foot ps[i]++(ps.drop (i+1)).flatMap K.foot)):=by
  conv=>lhs;rw[e]
  simp only[Kind.fp,List.flatMap_append,List.flatMap_cons]
 rw[hA]at h;simp only[List.nodup_append]at h;exact h.2.1.2.1.1
theorem DcI.fin{w wr wr':World}{b g T:Nat}{v:Value}{ps:List InstQ}{q:InstQ}(h:DcI w wr b g T v ps q)(hU:Out [w.heap.size] wr wr'):instK.Own wr' v ps∧instK.own wr' q∧Below w.heap.size w wr':=by
 have h1:=h.wb;exact⟨h.o.out hU (fun k hk hk'=>by simp only[List.mem_singleton]at hk';have:=h.lo k hk;omega),instK.own_out h.oq hU (fun k hk hk'=>by simp only[List.mem_singleton]at hk';have:=h.lq k hk;omega),Out.keep h.bel hU h.bel.size (fun k hk=>by simp only[List.mem_singleton]at hk;omega)⟩
theorem z2V(a:Option Addr)(cap:Nat)(zs:List Int)(w:World)(h:Row .u8 w a zs)(hu:∀i,0≤zs.getD i 0∧zs.getD i 0≤255)(hl:zs.length≤1048576):
  Calls Tryz.prog 23 #[.slice a zs.length cap] w fun e w'=>∃ (v:Value) (ps:List InstQ) (q:InstQ),e=.returned (.tuple #[v,.agg #[.bool q.has,q.vb,q.vr,q.vd]])∧ps.length≤5∧(∀p∈ps,InstQ.n p≤1000)∧InstQ.n q≤1000∧instK.Own w' v ps∧instK.own w' q∧Below w.heap.size w w':=by
 have M:Below w.heap.size w (w.alloc (.cells #[.bool false,.slice none 0 0,.slice none 0 0,.slice none 0 0] 49)):=by go_grown
 have R0:=Blk.new w 49 #[.bool false,.slice none 0 0,.slice none 0 0,.slice none 0 0];have aC:w.heap.size<(w.alloc (.cells #[.bool false,.slice none 0 0,.slice none 0 0,.slice none 0 0] 49)).heap.size:=by simp
 have au:∀i,i<zs.length→∃b' af,a=some ⟨b',af,none⟩∧b'<w.heap.size∧(w.alloc (.cells #[.bool false,.slice none 0 0,.slice none 0 0,.slice none 0 0] 49)).cell? ⟨b',af+i,none⟩=some (.int .u8 (zs.getD i 0)):=fun i hi=>by
  obtain⟨b',af,e1,e2,e3⟩:=h i hi;exact⟨b',af,e1,e2,z03 e3 M⟩
 go_enter Tryz.func23,Tryz.ntmps23
 go_wp2_with fail
 generalize w.alloc (.cells #[.bool false,.slice none 0 0,.slice none 0 0,.slice none 0 0] 49)=W at*;refine(z1O w.heap.size a cap zs W M.size hl hu au).mono ?_;rintro e x1 ⟨rfl,hS,ak⟩;replace R0:=R0.below ak;replace M:=M.trans (ak.mono M.size);generalize aD:W.heap.size=b at*;clear ak au aD h hu hl
 go_wp2_with fail
 refine(z2k w.heap.size b 0 x1 hS (by omega)).mono ?_;rintro e x2 ⟨v,ps,rfl,h5,aB,hO,aA,ax,ad,V⟩;have aI:=hS.lt;have hU:Out [b] x1 x2:=Out.of_grown V;have aG:=V.size;replace R0:=R0.outs hU (fun hk=>by simp only[List.mem_singleton]at hk;omega);replace M:=Out.keep M hU M.size (fun k hk=>by simp only[List.mem_singleton]at hk;omega);replace hS:=ad;have O:Hid (ps.length≤5∧∀p∈ps,InstQ.n p≤1000):=⟨h5,aB⟩
 have ab:Hid ((instK.fp v ps).Nodup∧∀k∈instK.fp v ps,b<k):=⟨aA,fun k hk=>by have:=ax k hk;omega⟩
 clear ad V hU aB aA ax;obtain⟨va,vc,rfl⟩:=hO.shape;obtain⟨n,aj⟩:∃n,Hid (ps.length=n):=⟨_,rfl⟩
 have aP:n≤5:=by have:=aj.out;omega
 rw[aj.out]at hO ab⊢;clear h5
 go_wp2_with fail
 refine(z3h w.heap.size b (0+15000) x2 hS (by omega)).mono ?_;rintro e x3 ⟨q,rfl,hn,oq,nq,gq,ad,V⟩;have hU:Out [b] x2 x3:=Out.of_grown V;have aH:=V.size;replace R0:=R0.outs hU (fun hk=>by simp only[List.mem_singleton]at hk;omega);replace M:=Out.keep M hU M.size (fun k hk=>by simp only[List.mem_singleton]at hk;omega);replace hO:=hO.out hU (fun k hk aF=>by simp only[List.mem_singleton]at aF;have:=ab.out.2 k hk;omega);replace hS:=ad;have hm:=instK.own_lt oq;have ay:=hO.lt;clear ad V hU;obtain⟨ch,cb,A,cr,D,cd,C⟩:=q;obtain⟨c1,c4,rfl⟩:∃a c,cb=.slice a A.length c:=oq.1.shape;obtain⟨c2,c5,rfl⟩:∃a c,cr=.slice a D.length c:=oq.2.1.shape;obtain⟨c3,c6,rfl⟩:∃a c,cd=.slice a C.length c:=oq.2.2.shape;have aa:Below x3.heap.size x3 (x3.alloc (.cells #[.bool ch,.slice c1 A.length c4,.slice c2 D.length c5,.slice c3 C.length c6] 49)):=by go_grown
 have HI:Hid (DcI w (x3.alloc (.cells #[.bool ch,.slice c1 A.length c4,.slice c2 D.length c5,.slice c3 C.length c6] 49)) b x3.heap.size (0+15000+2600) (.slice va n vc) ps (⟨ch,.slice c1 A.length c4,A,.slice c2 D.length c5,D,.slice c3 C.length c6,C⟩:InstQ)):=
  ⟨hS.below aa,aC,by omega,hO.below aa,ab.out.1,fun k hk=>by have:=ab.out.2 k hk;have:=ay k hk;omega,R0.below aa,Blk.new x3 49 #[.bool ch,.slice c1 A.length c4,.slice c2 D.length c5,.slice c3 C.length c6],instK.own_out (F:=[]) oq (Out.of_below aa) (fun _ _=>by simp),nq,fun k hk=>by have:=gq k hk;have:=hm k hk;omega,M.trans (aa.mono M.size)⟩
 have U:Hid (InstQ.n (⟨ch,.slice c1 A.length c4,A,.slice c2 D.length c5,D,.slice c3 C.length c6,C⟩:InstQ)≤1000):=hn;have aL:b<x3.heap.size:=by omega
 clear hS R0 hO ab oq nq gq hm ay M aa hn aI aG aH
 cases n with
 |zero=>
  go_wp2_with fail
  generalize x3.heap.size=g at*;generalize x3.alloc (.cells #[.bool ch,.slice c1 A.length c4,.slice c2 D.length c5,.slice c3 C.length c6] 49)=X at*;have k0:=z0g (F:=[w.heap.size]) (HI.out.x.cell 0 _ rfl) (by simp only[List.mem_singleton];omega);have k1:=z0g (F:=[w.heap.size]) (HI.out.x.cell 1 _ rfl) (by simp only[List.mem_singleton];omega);have k2:=z0g (F:=[w.heap.size]) (HI.out.x.cell 2 _ rfl) (by simp only[List.mem_singleton];omega);have k3:=z0g (F:=[w.heap.size]) (HI.out.x.cell 3 _ rfl) (by simp only[List.mem_singleton];omega);dsimp only at k0 k1 k2 k3;try go_wp2_with fail
  try simp only[Act.put]
  refine z0T [some 34,some 35,some 2] (fun vs w'=>(vs=[(.slice va 0 vc),.agg #[.bool ch,.slice c1 A.length c4,.slice c2 D.length c5,.slice c3 C.length c6],(.slice va 0 vc)])∧Blk w' w.heap.size 49 #[.bool ch,.slice c1 A.length c4,.slice c2 D.length c5,.slice c3 C.length c6]∧Out [w.heap.size] X w') ?_ ?_
  ·have hW:Below X.heap.size X X.drew:=(Below.refl _ _).drew;have an:Nonempty (LatO [w.heap.size] X):=⟨⟨X,Out.refl _ _⟩⟩
   have Y:∀w',Below X.heap.size X w'→∃u:LatO [w.heap.size] X,w'=u.val:=fun w' Z=>⟨⟨w',Out.of_below Z⟩,rfl⟩
   refine z0b (S:=fun w'=>∃u:LatO [w.heap.size] X,w'=u.val) (by kernel_rfl) ?_;refine sgr [(0,3)] 1 (by kernel_rfl) (Y _ hW) ?_;simp only[pkE];repeat go_big_quiet_step (fail)
   refine wpQuiet_nil ?_;refine ona 3 0 rfl (by kernel_rfl) ?_;have Rx:=HI.out.r.below hW;have Rr:=Rx.row #[.bool ch,.slice c1 A.length c4,.slice c2 D.length c5,.slice c3 C.length c6];have N:(Tryz.prog.info? 49).map (·.size)=some (#[.bool ch,.slice c1 A.length c4,.slice c2 D.length c5,.slice c3 C.length c6]:Array Value).size:=z0l;have uz:Out [w.heap.size] X (X.drew.setRow w.heap.size #[.bool ch,.slice c1 A.length c4,.slice c2 D.length c5,.slice c3 C.length c6]):=(Out.of_below hW).trans (z0f _ w.heap.size #[.bool ch,.slice c1 A.length c4,.slice c2 D.length c5,.slice c3 C.length c6]);refine z0d (by kernel_rfl) 49 _ _ rfl _ #[.bool ch,.slice c1 A.length c4,.slice c2 D.length c5,.slice c3 C.length c6] rfl rfl 49 _ Rx N rfl (by simp[Value.oneCell']) ?_;refine ThenGo.to ⟨⟨⟨_,uz⟩,rfl⟩,?_⟩;try simp only[Act.put,pgE,pjE]
   refine z0e (by kernel_rfl) ?_;refine⟨rfl,_,⟨rfl,Rr,uz⟩,?_⟩;simp only[z01,Act.put,pgE,pjE];try rfl
  rintro vs X6 ⟨rfl,Rr,uX⟩;simp only[z01,Act.put,pjE];have L:Hid (_∧_∧_):=HI.out.fin uX;obtain⟨q0,q1,q2,q3⟩:=Rr.cel4;clear uX k0 k1 k2 k3 HI
  go_wp2
  exact bodyPost_ret (v:=.tuple #[(.slice va 0 vc),.agg #[.bool ch,.slice c1 A.length c4,.slice c2 D.length c5,.slice c3 C.length c6]]) (by simp[results,Tryz.results23,go_sem,q0,q1,q2,q3]) rfl ⟨(.slice va 0 vc),ps,(⟨ch,.slice c1 A.length c4,A,.slice c2 D.length c5,D,.slice c3 C.length c6,C⟩:InstQ),rfl,O.out.1,O.out.2,U.out,L.out.1,L.out.2.1,L.out.2.2⟩
 |succ m=>
  have aN:(m:Int)<((m+1:Nat):Int):=by omega
  have aM:(m:Int)≤4:=by omega
  have aJ:(0:Int)≤(m:Int):=by omega
  have aO:(0:Int)<((m+1:Nat):Int):=by omega
  go_wp2_with fail
  generalize x3.heap.size=g at*;generalize x3.alloc (.cells #[.bool ch,.slice c1 A.length c4,.slice c2 D.length c5,.slice c3 C.length c6] 49)=X at*;refine(z1Z w.heap.size b (0+15000+2600) 4 X HI.out.s (by omega) (by omega)).mono ?_;rintro e x5 ⟨tt,rfl,ao,av⟩;replace HI:Hid (DcI w x5 b g _ (.slice va (m+1) vc) ps (⟨ch,.slice c1 A.length c4,A,.slice c2 D.length c5,D,.slice c3 C.length c6,C⟩:InstQ)):=HI.out.grown av ao;clear ao av
  cases tt with
  |true=>
   have k0:=z0g (F:=[w.heap.size]) (HI.out.x.cell 0 _ rfl) (by simp only[List.mem_singleton];omega);have k1:=z0g (F:=[w.heap.size]) (HI.out.x.cell 1 _ rfl) (by simp only[List.mem_singleton];omega);have k2:=z0g (F:=[w.heap.size]) (HI.out.x.cell 2 _ rfl) (by simp only[List.mem_singleton];omega);have k3:=z0g (F:=[w.heap.size]) (HI.out.x.cell 3 _ rfl) (by simp only[List.mem_singleton];omega);dsimp only at k0 k1 k2 k3;try go_wp2_with fail
   try simp only[Act.put]
   refine z0T [some 34,some 35,some 2] (fun vs w'=>(vs=[(.slice va (m+1) vc),.agg #[.bool ch,.slice c1 A.length c4,.slice c2 D.length c5,.slice c3 C.length c6],(.slice va (m+1) vc)])∧Blk w' w.heap.size 49 #[.bool ch,.slice c1 A.length c4,.slice c2 D.length c5,.slice c3 C.length c6]∧Out [w.heap.size] x5 w') ?_ ?_
   ·have hW:Below x5.heap.size x5 x5.drew:=(Below.refl _ _).drew;have an:Nonempty (LatO [w.heap.size] x5):=⟨⟨x5,Out.refl _ _⟩⟩
    have Y:∀w',Below x5.heap.size x5 w'→∃u:LatO [w.heap.size] x5,w'=u.val:=fun w' Z=>⟨⟨w',Out.of_below Z⟩,rfl⟩
    refine z0b (S:=fun w'=>∃u:LatO [w.heap.size] x5,w'=u.val) (by kernel_rfl) ?_;refine sgr [(0,3)] 1 (by kernel_rfl) (Y _ hW) ?_;simp only[pkE];repeat go_big_quiet_step (fail)
    refine wpQuiet_nil ?_;refine ona 3 0 rfl (by kernel_rfl) ?_;have Rx:=HI.out.r.below hW;have Rr:=Rx.row #[.bool ch,.slice c1 A.length c4,.slice c2 D.length c5,.slice c3 C.length c6];have N:(Tryz.prog.info? 49).map (·.size)=some (#[.bool ch,.slice c1 A.length c4,.slice c2 D.length c5,.slice c3 C.length c6]:Array Value).size:=z0l;have uz:Out [w.heap.size] x5 (x5.drew.setRow w.heap.size #[.bool ch,.slice c1 A.length c4,.slice c2 D.length c5,.slice c3 C.length c6]):=(Out.of_below hW).trans (z0f _ w.heap.size #[.bool ch,.slice c1 A.length c4,.slice c2 D.length c5,.slice c3 C.length c6]);refine z0d (by kernel_rfl) 49 _ _ rfl _ #[.bool ch,.slice c1 A.length c4,.slice c2 D.length c5,.slice c3 C.length c6] rfl rfl 49 _ Rx N rfl (by simp[Value.oneCell']) ?_;refine ThenGo.to ⟨⟨⟨_,uz⟩,rfl⟩,?_⟩;try simp only[Act.put,pgE,pjE]
    refine z0e (by kernel_rfl) ?_;refine⟨rfl,_,⟨rfl,Rr,uz⟩,?_⟩;simp only[z01,Act.put,pgE,pjE];try rfl
   rintro vs X6 ⟨rfl,Rr,uX⟩;simp only[z01,Act.put,pjE];have L:Hid (_∧_∧_):=HI.out.fin uX;obtain⟨q0,q1,q2,q3⟩:=Rr.cel4;clear uX k0 k1 k2 k3 HI
   go_wp2
   exact bodyPost_ret (v:=.tuple #[(.slice va (m+1) vc),.agg #[.bool ch,.slice c1 A.length c4,.slice c2 D.length c5,.slice c3 C.length c6]]) (by simp[results,Tryz.results23,go_sem,q0,q1,q2,q3]) rfl ⟨(.slice va (m+1) vc),ps,(⟨ch,.slice c1 A.length c4,A,.slice c2 D.length c5,D,.slice c3 C.length c6,C⟩:InstQ),rfl,O.out.1,O.out.2,U.out,L.out.1,L.out.2.1,L.out.2.2⟩
  |false=>
   have T:m<ps.length:=by have:=aj.out;omega
   have hO:=HI.out.o;obtain⟨g0,rfl⟩:=hO.blkOf (by omega);have o5:=hO.2 ps[m] (List.getElem_mem T);have n5:=z9w HI.out.nd m T;have l5:∀k∈instK.foot ps[m],b<k∧k≠g:=fun k hk=>HI.out.lo k (by simp only[Kind.fp,List.mem_append];exact Or.inr (List.mem_flatMap.2 ⟨_,List.getElem_mem T,hk⟩))
   have ai:InstQ.n ps[m]≤1000:=O.out.2 _ (List.getElem_mem T);obtain⟨d0,_⟩:=hO.cell m T 0 (.bool ps[m].has) rfl;obtain⟨d1,_⟩:=hO.cell m T 1 ps[m].vb rfl;obtain⟨d2,_⟩:=hO.cell m T 2 ps[m].vr rfl;obtain⟨d3,_⟩:=hO.cell m T 3 ps[m].vd rfl;have aw:∀j,m*instK.size+j=m*4+j:=fun j=>rfl
   rw[aw]at d0 d1 d2 d3;rw[Nat.add_zero]at d0;generalize ps[m]=q5 at*;obtain⟨fh,fb,d,fr,z,fd,y⟩:=q5;obtain⟨f1,f4,rfl⟩:∃a c,fb=.slice a d.length c:=o5.1.shape;obtain⟨f2,f5,rfl⟩:∃a c,fr=.slice a z.length c:=o5.2.1.shape;obtain⟨f3,f6,rfl⟩:∃a c,fd=.slice a y.length c:=o5.2.2.shape;dsimp only at d0 d1 d2 d3;have Bx:=HI.out.x;have N:(Tryz.prog.info? 49).map (·.size)=some (#[.bool fh,.slice f1 d.length f4,.slice f2 z.length f5,.slice f3 y.length f6]:Array Value).size:=z0l;replace HI:Hid (DcI w (x5.setRow g #[.bool fh,.slice f1 d.length f4,.slice f2 z.length f5,.slice f3 y.length f6]) b g _ (.slice (some ⟨g0,0,none⟩) (m+1) vc) ps (⟨fh,.slice f1 d.length f4,d,.slice f2 z.length f5,z,.slice f3 y.length f6,y⟩:InstQ)):=HI.out.store (⟨fh,.slice f1 d.length f4,d,.slice f2 z.length f5,z,.slice f3 y.length f6,y⟩:InstQ) o5 n5 l5;replace U:Hid (InstQ.n (⟨fh,.slice f1 d.length f4,d,.slice f2 z.length f5,z,.slice f3 y.length f6,y⟩:InstQ)≤1000):=ai;clear o5 n5 l5 ai hO aw
   go_wp2_with (first|(refine z0d (by kernel_rfl) 49 _ _ rfl _ #[.bool fh,.slice f1 d.length f4,.slice f2 z.length f5,.slice f3 y.length f6] rfl rfl 49 _ Bx N rfl (by simp[Value.oneCell']) ?_))
   clear Bx N d0 d1 d2 d3;generalize x5.setRow g #[.bool fh,.slice f1 d.length f4,.slice f2 z.length f5,.slice f3 y.length f6]=X5 at*;have hf:=z2B g 0 (⟨fh,.slice f1 d.length f4,d,.slice f2 z.length f5,z,.slice f3 y.length f6,y⟩:InstQ) X5 (⟨⟨HI.out.x.cell 0 _ rfl,HI.out.x.cell 1 _ rfl,HI.out.x.cell 2 _ rfl,HI.out.x.cell 3 _ rfl⟩,instK.own_rd HI.out.oq⟩:InstP _ g 0 (⟨fh,.slice f1 d.length f4,d,.slice f2 z.length f5,z,.slice f3 y.length f6,y⟩:InstQ)) (by have:=U.out;omega);generalize hE:insF (InstQ.e (⟨fh,.slice f1 d.length f4,d,.slice f2 z.length f5,z,.slice f3 y.length f6,y⟩:InstQ))=E at hf;have HE:Hid (insF (InstQ.e (⟨fh,.slice f1 d.length f4,d,.slice f2 z.length f5,z,.slice f3 y.length f6,y⟩:InstQ))=E):=hE;clear hE
   go_wp2_with fail
   refine hf.mono ?_;rintro e w7 ⟨rfl,ar⟩;replace HI:Hid (DcI w w7 b g _ (.slice (some ⟨g0,0,none⟩) (m+1) vc) ps (⟨fh,.slice f1 d.length f4,d,.slice f2 z.length f5,z,.slice f3 y.length f6,y⟩:InstQ)):=HI.out.below ar;clear ar hf;by_cases ae:E=0
   ·have aE:=HE.out.trans ae;subst ae;have k0:=HI.out.x.cell 0 _ rfl;have k1:=HI.out.x.cell 1 _ rfl;have k2:=HI.out.x.cell 2 _ rfl;have k3:=HI.out.x.cell 3 _ rfl;dsimp only at k0 k1 k2 k3;clear HE
    go_wp2_with fail
    clear k0 k1 k2 k3;refine(z3g w.heap.size b _ (⟨fh,.slice f1 d.length f4,d,.slice f2 z.length f5,z,.slice f3 y.length f6,y⟩:InstQ) w7 HI.out.s (by omega) HI.out.oq HI.out.nq aE (fun hk=>by have:=HI.out.lq b hk;omega)).mono ?_;rintro e w8 ⟨q8,rfl,i8,o8,n8,g8,ap,ag⟩;have am:=HI.out.x.lt;have al:=HI.out.s.lt;have l8:∀k∈instK.foot q8,b<k∧k≠g:=fun k hk=>by
     rcases g8 k hk with h9|h9
     ·exact HI.out.lq k h9
     ·omega
    replace HI:Hid (DcI w w8 b g _ (.slice (some ⟨g0,0,none⟩) (m+1) vc) ps (⟨fh,.slice f1 d.length f4,d,.slice f2 z.length f5,z,.slice f3 y.length f6,y⟩:InstQ)):=HI.out.grown ag ap;clear g8 ag ap am al
    go_wp2_with fail
    refine(z3g w.heap.size b _ q8 w8 HI.out.s (by omega) o8 n8 i8 (fun hk=>by have:=l8 b hk;omega)).mono ?_;rintro e w9 ⟨q9,rfl,i9,o9,n9,g9,aq,ah⟩;have am:=HI.out.x.lt;have al:=HI.out.s.lt;have l9:∀k∈instK.foot q9,b<k∧k≠g:=fun k hk=>by
     rcases g9 k hk with h9|h9
     ·exact l8 k h9
     ·omega
    replace HI:Hid (DcI w w9 b g _ (.slice (some ⟨g0,0,none⟩) (m+1) vc) ps (⟨fh,.slice f1 d.length f4,d,.slice f2 z.length f5,z,.slice f3 y.length f6,y⟩:InstQ)):=HI.out.grown ah aq;have az:InstQ.n q9≤1000:=by rw[z0F];have:=z0w i9;omega
    clear g9 ah aq am al o8 n8 i8 l8 i9;obtain⟨th,tb,G,tr,J,td,I⟩:=q9;obtain⟨t1,t4,rfl⟩:∃a c,tb=.slice a G.length c:=o9.1.shape;obtain⟨t2,t5,rfl⟩:∃a c,tr=.slice a J.length c:=o9.2.1.shape;obtain⟨t3,t6,rfl⟩:∃a c,td=.slice a I.length c:=o9.2.2.shape;have Bx:=HI.out.x;have N:(Tryz.prog.info? 49).map (·.size)=some (#[.bool th,.slice t1 G.length t4,.slice t2 J.length t5,.slice t3 I.length t6]:Array Value).size:=z0l;replace HI:Hid (DcI w (w9.setRow g #[.bool th,.slice t1 G.length t4,.slice t2 J.length t5,.slice t3 I.length t6]) b g _ (.slice (some ⟨g0,0,none⟩) (m+1) vc) ps (⟨th,.slice t1 G.length t4,G,.slice t2 J.length t5,J,.slice t3 I.length t6,I⟩:InstQ)):=HI.out.store (⟨th,.slice t1 G.length t4,G,.slice t2 J.length t5,J,.slice t3 I.length t6,I⟩:InstQ) o9 n9 l9;replace U:Hid (InstQ.n (⟨th,.slice t1 G.length t4,G,.slice t2 J.length t5,J,.slice t3 I.length t6,I⟩:InstQ)≤1000):=az;clear o9 n9 l9 az
    go_wp2_with (first|(refine z0d (by kernel_rfl) 49 _ _ rfl _ #[.bool th,.slice t1 G.length t4,.slice t2 J.length t5,.slice t3 I.length t6] rfl rfl 49 _ Bx N rfl (by simp[Value.oneCell']) ?_))
    clear Bx N;generalize w9.setRow g #[.bool th,.slice t1 G.length t4,.slice t2 J.length t5,.slice t3 I.length t6]=W9 at*;have k0:=z0g (F:=[w.heap.size]) (HI.out.x.cell 0 _ rfl) (by simp only[List.mem_singleton];omega);have k1:=z0g (F:=[w.heap.size]) (HI.out.x.cell 1 _ rfl) (by simp only[List.mem_singleton];omega);have k2:=z0g (F:=[w.heap.size]) (HI.out.x.cell 2 _ rfl) (by simp only[List.mem_singleton];omega);have k3:=z0g (F:=[w.heap.size]) (HI.out.x.cell 3 _ rfl) (by simp only[List.mem_singleton];omega);dsimp only at k0 k1 k2 k3;try go_wp2_with fail
    try simp only[Act.put]
    refine z0T [some 34,some 35,some 2] (fun vs w'=>(vs=[(.slice (some ⟨g0,0,none⟩) (m+1) vc),.agg #[.bool th,.slice t1 G.length t4,.slice t2 J.length t5,.slice t3 I.length t6],(.slice (some ⟨g0,0,none⟩) (m+1) vc)])∧Blk w' w.heap.size 49 #[.bool th,.slice t1 G.length t4,.slice t2 J.length t5,.slice t3 I.length t6]∧Out [w.heap.size] W9 w') ?_ ?_
    ·have hW:Below W9.heap.size W9 W9.drew:=(Below.refl _ _).drew;have an:Nonempty (LatO [w.heap.size] W9):=⟨⟨W9,Out.refl _ _⟩⟩
     have Y:∀w',Below W9.heap.size W9 w'→∃u:LatO [w.heap.size] W9,w'=u.val:=fun w' Z=>⟨⟨w',Out.of_below Z⟩,rfl⟩
     refine z0b (S:=fun w'=>∃u:LatO [w.heap.size] W9,w'=u.val) (by kernel_rfl) ?_;refine sgr [(0,3)] 1 (by kernel_rfl) (Y _ hW) ?_;simp only[pkE];repeat go_big_quiet_step (fail)
     refine wpQuiet_nil ?_;refine ona 3 0 rfl (by kernel_rfl) ?_;have Rx:=HI.out.r.below hW;have Rr:=Rx.row #[.bool th,.slice t1 G.length t4,.slice t2 J.length t5,.slice t3 I.length t6];have N:(Tryz.prog.info? 49).map (·.size)=some (#[.bool th,.slice t1 G.length t4,.slice t2 J.length t5,.slice t3 I.length t6]:Array Value).size:=z0l;have uz:Out [w.heap.size] W9 (W9.drew.setRow w.heap.size #[.bool th,.slice t1 G.length t4,.slice t2 J.length t5,.slice t3 I.length t6]):=(Out.of_below hW).trans (z0f _ w.heap.size #[.bool th,.slice t1 G.length t4,.slice t2 J.length t5,.slice t3 I.length t6]);refine z0d (by kernel_rfl) 49 _ _ rfl _ #[.bool th,.slice t1 G.length t4,.slice t2 J.length t5,.slice t3 I.length t6] rfl rfl 49 _ Rx N rfl (by simp[Value.oneCell']) ?_;refine ThenGo.to ⟨⟨⟨_,uz⟩,rfl⟩,?_⟩;try simp only[Act.put,pgE,pjE]
     refine z0e (by kernel_rfl) ?_;refine⟨rfl,_,⟨rfl,Rr,uz⟩,?_⟩;simp only[z01,Act.put,pgE,pjE];try rfl
    rintro vs X6 ⟨rfl,Rr,uX⟩;simp only[z01,Act.put,pjE];have L:Hid (_∧_∧_):=HI.out.fin uX;obtain⟨q0,q1,q2,q3⟩:=Rr.cel4;clear uX k0 k1 k2 k3 HI
    go_wp2
    exact bodyPost_ret (v:=.tuple #[(.slice (some ⟨g0,0,none⟩) (m+1) vc),.agg #[.bool th,.slice t1 G.length t4,.slice t2 J.length t5,.slice t3 I.length t6]]) (by simp[results,Tryz.results23,go_sem,q0,q1,q2,q3]) rfl ⟨(.slice (some ⟨g0,0,none⟩) (m+1) vc),ps,(⟨th,.slice t1 G.length t4,G,.slice t2 J.length t5,J,.slice t3 I.length t6,I⟩:InstQ),rfl,O.out.1,O.out.2,U.out,L.out.1,L.out.2.1,L.out.2.2⟩
   ·have aK:(E==0)=false:=beq_eq_false_iff_ne.2 ae;clear ae HE;have k0:=z0g (F:=[w.heap.size]) (HI.out.x.cell 0 _ rfl) (by simp only[List.mem_singleton];omega);have k1:=z0g (F:=[w.heap.size]) (HI.out.x.cell 1 _ rfl) (by simp only[List.mem_singleton];omega);have k2:=z0g (F:=[w.heap.size]) (HI.out.x.cell 2 _ rfl) (by simp only[List.mem_singleton];omega);have k3:=z0g (F:=[w.heap.size]) (HI.out.x.cell 3 _ rfl) (by simp only[List.mem_singleton];omega);dsimp only at k0 k1 k2 k3;try go_wp2_with fail
    try simp only[Act.put]
    refine z0T [some 34,some 35,some 2] (fun vs w'=>(vs=[(.slice (some ⟨g0,0,none⟩) (m+1) vc),.agg #[.bool fh,.slice f1 d.length f4,.slice f2 z.length f5,.slice f3 y.length f6],(.slice (some ⟨g0,0,none⟩) (m+1) vc)])∧Blk w' w.heap.size 49 #[.bool fh,.slice f1 d.length f4,.slice f2 z.length f5,.slice f3 y.length f6]∧Out [w.heap.size] w7 w') ?_ ?_
    ·have hW:Below w7.heap.size w7 w7.drew:=(Below.refl _ _).drew;have an:Nonempty (LatO [w.heap.size] w7):=⟨⟨w7,Out.refl _ _⟩⟩
     have Y:∀w',Below w7.heap.size w7 w'→∃u:LatO [w.heap.size] w7,w'=u.val:=fun w' Z=>⟨⟨w',Out.of_below Z⟩,rfl⟩
     refine z0b (S:=fun w'=>∃u:LatO [w.heap.size] w7,w'=u.val) (by kernel_rfl) ?_;refine sgr [(0,3)] 1 (by kernel_rfl) (Y _ hW) ?_;simp only[pkE];repeat go_big_quiet_step (fail)
     refine wpQuiet_nil ?_;refine ona 3 0 rfl (by kernel_rfl) ?_;have Rx:=HI.out.r.below hW;have Rr:=Rx.row #[.bool fh,.slice f1 d.length f4,.slice f2 z.length f5,.slice f3 y.length f6];have N:(Tryz.prog.info? 49).map (·.size)=some (#[.bool fh,.slice f1 d.length f4,.slice f2 z.length f5,.slice f3 y.length f6]:Array Value).size:=z0l;have uz:Out [w.heap.size] w7 (w7.drew.setRow w.heap.size #[.bool fh,.slice f1 d.length f4,.slice f2 z.length f5,.slice f3 y.length f6]):=(Out.of_below hW).trans (z0f _ w.heap.size #[.bool fh,.slice f1 d.length f4,.slice f2 z.length f5,.slice f3 y.length f6]);refine z0d (by kernel_rfl) 49 _ _ rfl _ #[.bool fh,.slice f1 d.length f4,.slice f2 z.length f5,.slice f3 y.length f6] rfl rfl 49 _ Rx N rfl (by simp[Value.oneCell']) ?_;refine ThenGo.to ⟨⟨⟨_,uz⟩,rfl⟩,?_⟩;try simp only[Act.put,pgE,pjE]
     refine z0e (by kernel_rfl) ?_;refine⟨rfl,_,⟨rfl,Rr,uz⟩,?_⟩;simp only[z01,Act.put,pgE,pjE];try rfl
    rintro vs X6 ⟨rfl,Rr,uX⟩;simp only[z01,Act.put,pjE];have L:Hid (_∧_∧_):=HI.out.fin uX;obtain⟨q0,q1,q2,q3⟩:=Rr.cel4;clear uX k0 k1 k2 k3 HI
    go_wp2
    exact bodyPost_ret (v:=.tuple #[(.slice (some ⟨g0,0,none⟩) (m+1) vc),.agg #[.bool fh,.slice f1 d.length f4,.slice f2 z.length f5,.slice f3 y.length f6]]) (by simp[results,Tryz.results23,go_sem,q0,q1,q2,q3]) rfl ⟨(.slice (some ⟨g0,0,none⟩) (m+1) vc),ps,(⟨fh,.slice f1 d.length f4,d,.slice f2 z.length f5,z,.slice f3 y.length f6,y⟩:InstQ),rfl,O.out.1,O.out.2,U.out,L.out.1,L.out.2.1,L.out.2.2⟩
theorem ord7(v v':Value)(ps qs:List InstQ)(he:ps.map InstQ.e=qs.map InstQ.e)(w:World)(h:instK.At w v ps)(h':instK.At w v' qs)(hl:ps.length+nmL InstQ.n ps≤1048576)(hl':qs.length+nmL InstQ.n qs≤1048576):
  Calls Tryz.prog 26 #[v,v'] w fun e w'=>e=.returned (.bool true)∧Below w.heap.size w w':=by
 have hq:=z2U v v' ps qs w h h' hl hl';rw[he,z6b]at hq;exact hq
theorem q1n(a:Option Addr)(cap:Nat)(zs:List Int)(w:World)(hG:Rul w)(h:Row .u8 w a zs)(hu:∀i,0≤zs.getD i 0∧zs.getD i 0≤255)(hm:zs.length≤9223372036854775807):
  Calls Tryz.prog 4 #[.slice a zs.length cap] w fun e w'=>e=.returned (.bool true)∧Below w.heap.size w w':=by
 by_cases al:zs.length≤1048576
 case neg=>
  have hd:decide (1048576<(zs.length:Int))=true:=decide_eq_true (by omega);go_enter Tryz.func4,Tryz.ntmps4
  go_wp2_with fail
  refine(z2R a zs.length cap w hm).mono ?_;rintro e w1 ⟨rfl,hw⟩;subst hw;rw[hd]
  go_wp2
  go_ret;exact⟨rfl,Below.refl _ _⟩
 have b0:Below w.heap.size w w:=Below.refl _ _;have hd:decide (1048576<(zs.length:Int))=false:=decide_eq_false (by omega);go_enter Tryz.func4,Tryz.ntmps4
 go_wp2_with fail
 refine(z2R a zs.length cap w hm).mono ?_;rintro e w1 ⟨rfl,hw⟩;replace hw:=hw.symm;subst hw;rw[hd]
 go_wp2_with fail
 refine(z2V a cap zs w h hu al).mono ?_;rintro e w2 ⟨v,ps,q,rfl,h5,an,aA,hO,oq,hb⟩;replace b0:=hb;replace hG:=hG.below hb;clear hb;have G:ps.length+nmL InstQ.n ps≤1048576:=by have:=z1k InstQ.n 1000 ps an;omega
 have M:InstQ.n q≤1048576:=by omega
 obtain⟨va,vc,rfl⟩:=hO.shape;obtain⟨ch,cb,r,cr,x,cd,s⟩:=q;obtain⟨c1,c4,rfl⟩:∃a c,cb=.slice a r.length c:=oq.1.shape;obtain⟨c2,c5,rfl⟩:∃a c,cr=.slice a x.length c:=oq.2.1.shape;obtain⟨c3,c6,rfl⟩:∃a c,cd=.slice a s.length c:=oq.2.2.shape;have hb:Below w2.heap.size w2 (w2.alloc (.cells #[.bool ch,.slice c1 r.length c4,.slice c2 x.length c5,.slice c3 s.length c6] 49)):=by go_grown
 have X0:=Blk.new w2 49 #[.bool ch,.slice c1 r.length c4,.slice c2 x.length c5,.slice c3 s.length c6];replace b0:=b0.trans (hb.mono b0.size);replace hG:=hG.below hb;replace hO:=hO.below hb;replace oq:=instK.own_out (F:=[]) oq (Out.of_below hb) (fun _ _=>by simp);clear hb h5 an aA h hu hm al hd;obtain⟨k0,k1,k2,k3⟩:=X0.cel4
 go_wp2_with fail
 clear k0 k1 k2 k3;generalize w2.heap.size=gx at*;generalize (w2.alloc (.cells #[.bool ch,.slice c1 r.length c4,.slice c2 x.length c5,.slice c3 s.length c6] 49))=W2 at*;have af:=hO.at;have cP:=hO.capOk;have I:=instK.own_rd oq;refine(z2S _ ps (⟨ch,.slice c1 r.length c4,r,.slice c2 x.length c5,x,.slice c3 s.length c6,s⟩:InstQ) W2 hG hO I G M).mono ?_;rintro e w3 ⟨v',qs,rfl,O,J,aB,aw,hb⟩;have ap:Hid (qs.map InstQ.e=clO (ps.map InstQ.e) (InstQ.e (⟨ch,.slice c1 r.length c4,r,.slice c2 x.length c5,x,.slice c3 s.length c6,s⟩:InstQ))):=O;have E:qs.length+nmL InstQ.n qs≤1048576:=q1j O;have L:Hid (∀q5:List InstQ,q5.map InstQ.e=clO (ps.map InstQ.e) (InstQ.e (⟨ch,.slice c1 r.length c4,r,.slice c2 x.length c5,x,.slice c3 s.length c6,s⟩:InstQ))→q5.length+nmL InstQ.n q5≤1048576):=fun q5 h5=>q1j h5
 have N:Hid (clC (ps.map InstQ.e) (InstQ.e (⟨ch,.slice c1 r.length c4,r,.slice c2 x.length c5,x,.slice c3 s.length c6,s⟩:InstQ))=0→_):=fun hc=>q1m hc
 have Y:=fun w h h'=>z2T (.slice va ps.length vc) ps (⟨ch,.slice c1 r.length c4,r,.slice c2 x.length c5,x,.slice c3 s.length c6,s⟩:InstQ) w h h' G M
 generalize clO (ps.map InstQ.e) (InstQ.e (⟨ch,.slice c1 r.length c4,r,.slice c2 x.length c5,x,.slice c3 s.length c6,s⟩:InstQ))=OO at*;generalize clC (ps.map InstQ.e) (InstQ.e (⟨ch,.slice c1 r.length c4,r,.slice c2 x.length c5,x,.slice c3 s.length c6,s⟩:InstQ))=CC at*;dsimp only at Y;subst O;obtain⟨qa,qc,rfl⟩:=J.shape;have cQ:=J.capOk;have A:=J.at;have z:=af.below hb;have C:=instK.rd_below I hb;replace X0:=X0.below hb;replace b0:=b0.trans (hb.mono b0.size);replace hG:=hG.below hb;clear hb J aB aw oq hO af I;have hb:Below w3.heap.size w3 (w3.alloc (.cells #[.int .i64 CC,.slice qa qs.length qc] 33)):=by go_grown
 have P0:=Blk.new w3 33 #[.int .i64 CC,.slice qa qs.length qc];replace A:=A.below hb;replace z:=z.below hb;replace C:=instK.rd_below C hb;replace X0:=X0.below hb;replace b0:=b0.trans (hb.mono b0.size);replace hG:=hG.below hb;clear hb;have z0:=P0.cell 0 _ rfl;by_cases hC:CC=0
 focus
  obtain⟨ag,ah,aE,ai,aj⟩:=N.out hC;subst hC;clear N;have T:=fun w hG h=>z0H (.slice va ps.length vc) ps w hG h G
  have U:=fun w hG h=>z0H (.slice qa qs.length qc) qs w hG h E
  have am:=fun w hG h=>z0L (.slice qa qs.length qc) qs w hG h E
  rw[ag]at T;rw[ah]at U am;clear ag ah;generalize diV (ps.map InstQ.e)=y at*;generalize diV (qs.map InstQ.e)=D at*;have ak:=fun w hG h=>z0M (.slice va ps.length vc) ps y w hG h cP G
  have ax:=fun w hG h=>z0M (.slice qa qs.length qc) qs D w hG h cQ E
  have ay:=fun w hG h=>z0M (.slice qa qs.length qc) qs y w hG h cQ E
  have Z:Hid (∀t1:List TxnQ,t1.map TxnQ.e=dfT (ps.map InstQ.e) y→t1.length+nmL TxnQ.n t1≤1048576):=fun t1 e1=>z7A e1 G
  have aq:Hid (∀t1:List TxnQ,t1.map TxnQ.e=dfT (qs.map InstQ.e) D→t1.length+nmL TxnQ.n t1≤1048576):=fun t1 e1=>z7A e1 E
  have ar:Hid (∀t1:List TxnQ,t1.map TxnQ.e=dfT (qs.map InstQ.e) y→t1.length+nmL TxnQ.n t1≤1048576):=fun t1 e1=>z7A e1 E
  have ao:Hid (preT (dfT (ps.map InstQ.e) y) (dfT (qs.map InstQ.e) D)=true):=ai;have au:Hid (sameTs (dfT (ps.map InstQ.e) y) (dfT (qs.map InstQ.e) y)=true):=aj;have aC:Hid (qs.map InstQ.e=qs.map InstQ.e):=show _=_ from rfl
  have av:Hid (∀q5:List InstQ,q5.map InstQ.e=qs.map InstQ.e→q5.length+nmL InstQ.n q5≤1048576):=L.out;clear ai aj ap L;generalize dfT (ps.map InstQ.e) y=DA at*;generalize dfT (qs.map InstQ.e) D=DB at*;generalize dfT (qs.map InstQ.e) y=DC at*;generalize dfC (ps.map InstQ.e) y=KA at*;generalize dfC (qs.map InstQ.e) D=KB at*;generalize dfC (qs.map InstQ.e) y=KC at*
  go_wp2_with fail
  generalize w3.heap.size=gp at*;generalize w3.alloc (.cells #[.int .i64 0,.slice qa qs.length qc] 33)=W4 at*;clear z0;refine(T W4 hG z).mono ?_;rintro e w5 ⟨rfl,hb⟩;replace A:=A.below hb;replace z:=z.below hb;replace C:=instK.rd_below C hb;replace X0:=X0.below hb;replace P0:=P0.below hb;replace b0:=b0.trans (hb.mono b0.size);replace hG:=hG.below hb;clear hb;have z1:=P0.cell 1 _ rfl;have V:=z8J 0 y w5
  go_wp2_with fail
  clear z1 V;refine(U w5 hG A).mono ?_;rintro e X ⟨rfl,hb⟩;replace A:=A.below hb;replace z:=z.below hb;replace C:=instK.rd_below C hb;replace X0:=X0.below hb;replace P0:=P0.below hb;replace b0:=b0.trans (hb.mono b0.size);replace hG:=hG.below hb;clear hb T U;have V:=z8J 0 D X
  go_wp2_with fail
  clear V;obtain⟨x0,x1,x2,x3⟩:=X0.lts4;obtain⟨y0,y1⟩:=P0.lts2;have W:∀w',Below X.heap.size X w'→instK.rd w' (⟨ch,.slice c1 r.length c4,r,.slice c2 x.length c5,x,.slice c3 s.length c6,s⟩:InstQ):=fun w' hb=>instK.rd_below C hb
  have hW:Below X.heap.size X X.drew:=(Below.refl _ _).drew;have az:Nonempty (Lat X):=⟨⟨X,Below.refl _ _⟩⟩
  refine z0b (S:=fun w'=>∃u:Lat X,w'=u.val) (by kernel_rfl) ?_;refine sgr [(0,2)] 41 (by kernel_rfl) ⟨⟨_,hW⟩,rfl⟩ ?_;simp only[pkE];repeat go_big_quiet_step (fail)
  refine wpQuiet_nil ?_;refine cla 2 (some 37) 16 #[.slice qa qs.length qc] 40 (by kernel_rfl) ?_;refine(am _ (hG.below hW) (A.below hW)).mono ?_;rintro e w9 ⟨rfl,d⟩;replace hW:=hW.trans (d.mono hW.size);clear d;refine⟨_,rfl,⟨⟨_,hW⟩,rfl⟩,?_⟩;simp only[Act.put,pjE];refine sgr [(3,9),(14,3)] 28 (by kernel_rfl) ⟨⟨_,hW⟩,rfl⟩ ?_;simp only[pkE];repeat go_big_quiet_step (fail)
  refine wpQuiet_nil ?_;refine cla 12 (some 47) 8 #[.slice va ps.length vc,.int .i64 y] 27 (by kernel_rfl) ?_;refine(ak _ (hG.below hW) (z.below hW)).mono ?_;rintro e w9 ⟨v1,t1,rfl,e1,o1,n1,g1,d⟩;replace hW:=hW.trans (d.mono hW.size);clear n1 g1;obtain⟨aa,k1,rfl⟩:=o1.shape;clear d;refine⟨_,rfl,⟨⟨_,hW⟩,rfl⟩,?_⟩;simp only[Act.put,pjE];refine qta 13 (some 48) (.slice aa t1.length k1) 26 (by kernel_rfl) (fun u _=>by kernel_rfl) ⟨⟨_,hW⟩,rfl⟩ ?_;simp only[Act.put,pjE];refine cla 17 (some 52) 8 #[.slice qa qs.length qc,.int .i64 D] 25 (by kernel_rfl) ?_;refine(ax _ (hG.below hW) (A.below hW)).mono ?_;rintro e w9 ⟨v2,t2,rfl,e2,o2,n2,g2,d⟩;replace hW:=hW.trans (d.mono hW.size);replace o1:=o1.below d;clear n2 g2;obtain⟨ab,k2,rfl⟩:=o2.shape;clear d;refine⟨_,rfl,⟨⟨_,hW⟩,rfl⟩,?_⟩;simp only[Act.put,pjE];refine qta 18 (some 53) (.slice ab t2.length k2) 24 (by kernel_rfl) (fun u _=>by kernel_rfl) ⟨⟨_,hW⟩,rfl⟩ ?_;simp only[Act.put,pjE];refine cla 19 (some 54) 17 #[.slice aa t1.length k1,.slice ab t2.length k2] 23 (by kernel_rfl) ?_;refine(q1P _ _ t1 t2 e1 e2 ao.out _ o1.at o2 (Z.out t1 e1) (aq.out t2 e2)).mono ?_;rintro e w9 ⟨rfl,d⟩;replace hW:=hW.trans (d.mono hW.size);clear o1 o2 e1 e2;clear d;refine⟨_,rfl,⟨⟨_,hW⟩,rfl⟩,?_⟩;simp only[Act.put,pjE];refine sgr [(20,4),(26,3)] 16 (by kernel_rfl) ⟨⟨_,hW⟩,rfl⟩ ?_;simp only[pkE];repeat go_big_quiet_step (fail)
  refine wpQuiet_nil ?_;refine cla 24 (some 59) 8 #[.slice va ps.length vc,.int .i64 y] 15 (by kernel_rfl) ?_;refine(ak _ (hG.below hW) (z.below hW)).mono ?_;rintro e w9 ⟨v3,t3,rfl,e3,o3,n3,g3,d⟩;replace hW:=hW.trans (d.mono hW.size);clear n3 g3;obtain⟨ad,k3,rfl⟩:=o3.shape;clear d;refine⟨_,rfl,⟨⟨_,hW⟩,rfl⟩,?_⟩;simp only[Act.put,pjE];refine qta 25 (some 60) (.slice ad t3.length k3) 14 (by kernel_rfl) (fun u _=>by kernel_rfl) ⟨⟨_,hW⟩,rfl⟩ ?_;simp only[Act.put,pjE];refine cla 29 (some 64) 8 #[.slice qa qs.length qc,.int .i64 y] 13 (by kernel_rfl) ?_;refine(ay _ (hG.below hW) (A.below hW)).mono ?_;rintro e w9 ⟨v4,t4,rfl,e4,o4,n4,g4,d⟩;replace hW:=hW.trans (d.mono hW.size);replace o3:=o3.below d;clear n4 g4;obtain⟨ae,k4,rfl⟩:=o4.shape;clear d;refine⟨_,rfl,⟨⟨_,hW⟩,rfl⟩,?_⟩;simp only[Act.put,pjE];refine qta 30 (some 65) (.slice ae t4.length k4) 12 (by kernel_rfl) (fun u _=>by kernel_rfl) ⟨⟨_,hW⟩,rfl⟩ ?_;simp only[Act.put,pjE];refine cla 31 (some 66) 22 #[.slice ad t3.length k3,.slice ae t4.length k4] 11 (by kernel_rfl) ?_;refine(q1h _ _ t3 t4 e3 e4 au.out _ o3.at o4.at (Z.out t3 e3) (ar.out t4 e4)).mono ?_;rintro e w9 ⟨rfl,d⟩;replace hW:=hW.trans (d.mono hW.size);clear o3 o4 e3 e4;clear d;refine⟨_,rfl,⟨⟨_,hW⟩,rfl⟩,?_⟩;simp only[Act.put,pjE];refine sgr [(32,6)] 5 (by kernel_rfl) ⟨⟨_,hW⟩,rfl⟩ ?_;simp only[pkE];repeat go_big_quiet_step (fail)
  refine wpQuiet_nil ?_;refine cla 38 (some 73) 25 #[.slice va ps.length vc,.agg #[.bool ch,.slice c1 r.length c4,.slice c2 x.length c5,.slice c3 s.length c6]] 4 (by kernel_rfl) ?_;refine(Y _ (z.below hW) (W _ hW)).mono ?_;rintro e w9 ⟨v5,q5,rfl,e5,o5,n5,g5,d⟩;replace hW:=hW.trans (d.mono hW.size);clear n5 g5;obtain⟨a5,k5,rfl⟩:=o5.shape;clear d;refine⟨_,rfl,⟨⟨_,hW⟩,rfl⟩,?_⟩;simp only[Act.put,pjE];refine qta 39 (some 74) (.slice a5 q5.length k5) 3 (by kernel_rfl) (fun u _=>by kernel_rfl) ⟨⟨_,hW⟩,rfl⟩ ?_;simp only[Act.put,pjE];refine cla 40 (some 75) 26 #[.slice qa qs.length qc,.slice a5 q5.length k5] 2 (by kernel_rfl) ?_;refine(ord7 _ _ qs q5 e5.symm _ (A.below hW) o5.at E (av.out q5 e5)).mono ?_;rintro e w9 ⟨rfl,d⟩;replace hW:=hW.trans (d.mono hW.size);clear o5 e5;clear d;refine⟨_,rfl,⟨⟨_,hW⟩,rfl⟩,?_⟩;simp only[Act.put,pjE];refine sgr [(41,2)] 0 (by kernel_rfl) ⟨⟨_,hW⟩,rfl⟩ ?_
 rotate_left
 focus
  have aD:(CC !=0)=true:=by simpa using hC
  have e1:(CC==CC)=true:=by simp
  clear N hC
  go_wp2_with fail
  clear z0;generalize w3.heap.size=gp at*;generalize w3.alloc (.cells #[.int .i64 CC,.slice qa qs.length qc] 33)=X at*;obtain⟨x0,x1,x2,x3⟩:=X0.lts4;have y0:=P0.lat 0 _ rfl;have W:∀w',Below X.heap.size X w'→instK.rd w' (⟨ch,.slice c1 r.length c4,r,.slice c2 x.length c5,x,.slice c3 s.length c6,s⟩:InstQ):=fun w' hb=>instK.rd_below C hb
  have hW:Below X.heap.size X X.drew:=(Below.refl _ _).drew;have az:Nonempty (Lat X):=⟨⟨X,Below.refl _ _⟩⟩
  refine z0b (S:=fun w'=>∃u:Lat X,w'=u.val) (by kernel_rfl) ?_;refine sgr [(0,2),(4,2)] 4 (by kernel_rfl) ⟨⟨_,hW⟩,rfl⟩ ?_;simp only[pkE];repeat go_big_quiet_step (fail)
  refine wpQuiet_nil ?_;refine cla 2 (some 23) 25 #[.slice va ps.length vc,.agg #[.bool ch,.slice c1 r.length c4,.slice c2 x.length c5,.slice c3 s.length c6]] 3 (by kernel_rfl) ?_;refine(Y _ (z.below hW) (W _ hW)).mono ?_;rintro e w9 ⟨v5,q5,rfl,e5,o5,n5,g5,d⟩;replace hW:=hW.trans (d.mono hW.size);clear n5 g5;obtain⟨a5,k5,rfl⟩:=o5.shape;clear d;refine⟨_,rfl,⟨⟨_,hW⟩,rfl⟩,?_⟩;simp only[Act.put,pjE];refine qta 3 (some 24) (.int .i64 CC) 2 (by kernel_rfl) (fun u _=>by kernel_rfl) ⟨⟨_,hW⟩,rfl⟩ ?_;simp only[Act.put,pjE];refine sgr [(6,2)] 0 (by kernel_rfl) ⟨⟨_,hW⟩,rfl⟩ ?_
 rotate_left
 all_goals
  simp only[pkE];repeat go_big_quiet_step (fail)
  refine wpQuiet_nil ?_;refine z0e (by kernel_rfl) ?_;replace b0:=b0.trans (hW.mono b0.size)
  go_wp2
  go_ret;exact⟨rfl,b0⟩
end Go.Proofs.YtciofogeiohleaaGreatDoor

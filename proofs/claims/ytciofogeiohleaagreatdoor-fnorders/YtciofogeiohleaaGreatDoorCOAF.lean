/- Texts joined,with what the laws reach alone. -/
import Derived.Test.YtciofogeiohleaaGreatDoorCOAE
set_option linter.unusedVariables false
set_option linter.unusedSimpArgs false
set_option maxRecDepth 100000
set_option maxHeartbeats 8000000
namespace Go.Proofs.YtciofogeiohleaaGreatDoor
open Go.RowKit Go.BigFrame
theorem z1q(p:InstQ)(w:World)(h:instK.rd w p)(hl:p.n≤1048576)(aL:∀t∈p.batch,0<t.acts.length)(aO:∀r∈p.rounds,0<r.rep.length∧0<r.pro.length)(aH:0<p.dec.length):
  Calls Tryz.prog 66 #[.agg #[.bool p.has,p.vb,p.vr,p.vd]] w fun e w'=>∃q:InstQ,e=.returned (.agg #[.bool q.has,q.vb,q.vr,q.vd])∧q.e=p.e∧instK.own w' q∧(instK.foot q).Nodup∧(∀k∈instK.foot q,w.heap.size≤k)∧Below w.heap.size w w':=by
 obtain⟨has,vb,d,vr,c,vd,dec⟩:=p;obtain⟨h1,h2,h3⟩:txnK.At w vb d∧roundK.At w vr c∧intK.At w vd dec:=h;obtain⟨ba,bk,rfl⟩:=h1.shape;obtain⟨va,vk,rfl⟩:=h2.shape;obtain⟨da,dk,rfl⟩:=h3.shape;dsimp only[InstQ.n]at hl aL aO aH;have ai:=fun w (hT:txnK.At w (.slice ba d.length bk) d)=>z1X _ d w hT aL (by omega)
 have V:=fun w (hT:intK.At w (.slice da dec.length dk) dec)=>z3b _ dec w hT aH (by omega)
 have hB:Below w.heap.size w ((w.alloc (.cells #[.bool has,.slice ba d.length bk,.slice va c.length vk,.slice da dec.length dk] 49)).alloc (.cells #[.bool false,.slice none 0 0,.slice none 0 0,.slice none 0 0] 49)):=by go_grown
 have Bx:=Blk.new w 49 #[.bool has,.slice ba d.length bk,.slice va c.length vk,.slice da dec.length dk];have aE:Below (w.alloc (.cells #[.bool has,.slice ba d.length bk,.slice va c.length vk,.slice da dec.length dk] 49)).heap.size (w.alloc (.cells #[.bool has,.slice ba d.length bk,.slice va c.length vk,.slice da dec.length dk] 49)) ((w.alloc (.cells #[.bool has,.slice ba d.length bk,.slice va c.length vk,.slice da dec.length dk] 49)).alloc (.cells #[.bool false,.slice none 0 0,.slice none 0 0,.slice none 0 0] 49)):=by go_grown
 have Rb:=Blk.new (w.alloc (.cells #[.bool has,.slice ba d.length bk,.slice va c.length vk,.slice da dec.length dk] 49)) 49 #[.bool false,.slice none 0 0,.slice none 0 0,.slice none 0 0];rw[World.size_alloc]at Rb;replace Bx:=Bx.below aE;clear aE;have bp:w.heap.size+2≤((w.alloc (.cells #[.bool has,.slice ba d.length bk,.slice va c.length vk,.slice da dec.length dk] 49)).alloc (.cells #[.bool false,.slice none 0 0,.slice none 0 0,.slice none 0 0] 49)).heap.size:=by simp
 go_enter Tryz.func66,Tryz.ntmps66
 go_wp2_with fail
 generalize ((w.alloc (.cells #[.bool has,.slice ba d.length bk,.slice va c.length vk,.slice da dec.length dk] 49)).alloc (.cells #[.bool false,.slice none 0 0,.slice none 0 0,.slice none 0 0] 49))=W at*;refine z0T [some 5,some 6,some 7,some 8,some 9,some 10,some 11,some 12,some 13,some 3] (fun vs w'=>∃ (s1:Option Addr) (t1:Nat) (q1:List TxnQ) (a3:Option Addr) (c3 g:Nat),vs=[.pointer (some ⟨w.heap.size,0,none⟩),.bool has,.pointer (some ⟨w.heap.size,1,none⟩),.slice ba d.length bk,.slice s1 q1.length t1,.pointer (some ⟨w.heap.size,3,none⟩),.slice da dec.length dk,.slice a3 dec.length c3,.agg #[.bool has,.slice s1 q1.length t1,.slice none 0 0,.slice a3 dec.length c3],.pointer (some ⟨g,0,none⟩)]∧W.heap.size≤g∧Blk w' g 49 #[.bool has,.slice s1 q1.length t1,.slice none 0 0,.slice a3 dec.length c3]∧q1.map TxnQ.e=d.map TxnQ.e∧txnK.Own w' (.slice s1 q1.length t1) q1∧(txnK.fp (.slice s1 q1.length t1) q1).Nodup∧(∀k∈txnK.fp (.slice s1 q1.length t1) q1,W.heap.size≤k)∧(∀k∈txnK.fp (.slice s1 q1.length t1) q1,k≠g)∧intK.Own w' (.slice a3 dec.length c3) dec∧(∀k∈intK.fp (.slice a3 dec.length c3) dec,W.heap.size≤k)∧(∀k∈intK.fp (.slice a3 dec.length c3) dec,k≠g)∧(∀x∈txnK.fp (.slice s1 q1.length t1) q1,∀y∈intK.fp (.slice a3 dec.length c3) dec,x≠y)∧Below W.heap.size W w') ?_ ?_
 ·have hW:Below W.heap.size W W.drew:=(Below.refl _ _).drew;have aN:Nonempty (Lat W):=⟨⟨W,Below.refl _ _⟩⟩
  obtain⟨p0,p1⟩:=Bx.lts2;have p3:=Bx.lat 3 _ rfl;refine z0b (S:=fun w'=>∃u:Lat W,w'=u.val) (by kernel_rfl) ?_;refine sgr [(0,4),(5,2)] 5 (by kernel_rfl) ⟨⟨_,hW⟩,rfl⟩ ?_;simp only[pkE];repeat go_big_quiet_step (fail)
  refine wpQuiet_nil ?_;clear p0 p1 p3;generalize W.drew=wd at hW⊢;refine twa 4 9 4 (by kernel_rfl) ?_ ?_
  focus
   skip;refine opc 4 (some 9) 45 #[.slice ba d.length bk] (by kernel_rfl) ?_;refine(ai _ (h1.below (hB.trans (hW.mono hB.size)))).mono ?_;rintro e x0 ⟨v1,q1,rfl,e1,o1,n1,g1,hb⟩;obtain⟨s1,t1,rfl⟩:=o1.shape;have L1:∀k∈txnK.fp (.slice s1 q1.length t1) q1,W.heap.size≤k:=fun k hk=>by have:=g1 k hk;have:=hW.size;omega
   clear g1;replace hW:=hW.trans (hb.mono hW.size);clear hb;refine⟨_,rfl,⟨⟨_,hW⟩,rfl⟩,?_⟩;simp only[Act.put,pgE,pjE];refine twa 7 9 3 (by kernel_rfl) ?_ ?_
   focus
    skip;refine opc 7 (some 12) 121 #[.slice da dec.length dk] (by kernel_rfl) ?_;refine(V _ (h3.below (hB.trans (hW.mono hB.size)))).mono ?_;rintro e x1 ⟨a3,c3,rfl,o3,g3,hb⟩;have L3:∀k∈intK.fp (.slice a3 dec.length c3) dec,W.heap.size≤k:=fun k hk=>by have:=g3 k hk;have:=hW.size;omega
    have A:∀x∈txnK.fp (.slice s1 q1.length t1) q1,∀y∈intK.fp (.slice a3 dec.length c3) dec,x≠y:=fun x hx y hy e=>by have:=o1.lt x hx;have:=g3 y hy;omega
    replace o1:=o1.below hb;clear g3;replace hW:=hW.trans (hb.mono hW.size);clear hb;refine⟨_,rfl,⟨⟨_,hW⟩,rfl⟩,?_⟩;simp only[Act.put,pgE,pjE];refine qta 8 (some 13) (.agg #[.bool has,.slice s1 q1.length t1,.slice none 0 0,.slice a3 dec.length c3]) 2 (by kernel_rfl) (fun u _=>by kernel_rfl) ⟨⟨_,hW⟩,rfl⟩ ?_;simp only[Act.put,pgE,pjE];refine ona 9 1 rfl (by kernel_rfl) ?_;have Bz:=Blk.new x1 49 #[.bool false,.slice none 0 0,.slice none 0 0,.slice none 0 0];have aP:W.heap.size≤x1.heap.size:=hW.size;have N1:∀k∈txnK.fp (.slice s1 q1.length t1) q1,k≠x1.heap.size:=fun k hk e=>by have:=o1.lt k hk;omega
    have N3:∀k∈intK.fp (.slice a3 dec.length c3) dec,k≠x1.heap.size:=fun k hk e=>by have:=o3.lt k hk;omega
    have z:Below x1.heap.size x1 (x1.alloc (.cells #[.bool false,.slice none 0 0,.slice none 0 0,.slice none 0 0] 49)):=by go_grown
    replace o1:=o1.below z;replace o3:=o3.below z;replace hW:=hW.trans (z.mono hW.size);clear z
    go_wp2
    refine ThenGo.to ⟨⟨⟨_,hW⟩,rfl⟩,?_⟩;generalize aZ:x1.heap.size=g at*;clear aZ;generalize x1.alloc (.cells #[.bool false,.slice none 0 0,.slice none 0 0,.slice none 0 0] 49)=Y2 at*;refine ona 10 0 rfl (by kernel_rfl) ?_;have s:=z0f Y2 g #[.bool has,.slice s1 q1.length t1,.slice none 0 0,.slice a3 dec.length c3]
   rotate_left
   focus
    skip;refine z4R 9 _ rfl ?_;have Bz:=Blk.new x0 49 #[.bool false,.slice none 0 0,.slice none 0 0,.slice none 0 0];have aP:W.heap.size≤x0.heap.size:=hW.size;have N1:∀k∈txnK.fp (.slice s1 q1.length t1) q1,k≠x0.heap.size:=fun k hk e=>by have:=o1.lt k hk;omega
    have z:Below x0.heap.size x0 (x0.alloc (.cells #[.bool false,.slice none 0 0,.slice none 0 0,.slice none 0 0] 49)):=by go_grown
    replace o1:=o1.below z;replace hW:=hW.trans (z.mono hW.size);clear z
    go_wp2
    refine ThenGo.to ⟨⟨⟨_,hW⟩,rfl⟩,?_⟩;generalize aY:x0.heap.size=g at*;clear aY;generalize x0.alloc (.cells #[.bool false,.slice none 0 0,.slice none 0 0,.slice none 0 0] 49)=Y1 at*;refine cla 7 (some 12) 121 #[.slice da dec.length dk] 2 (by kernel_rfl) ?_;refine(V _ (h3.below (hB.trans (hW.mono hB.size)))).mono ?_;rintro e x2 ⟨a3,c3,rfl,o3,g3,hb⟩;have L3:∀k∈intK.fp (.slice a3 dec.length c3) dec,W.heap.size≤k:=fun k hk=>by have:=g3 k hk;have:=hW.size;omega
    have A:∀x∈txnK.fp (.slice s1 q1.length t1) q1,∀y∈intK.fp (.slice a3 dec.length c3) dec,x≠y:=fun x hx y hy e=>by have:=o1.lt x hx;have:=g3 y hy;omega
    have N3:∀k∈intK.fp (.slice a3 dec.length c3) dec,k≠g:=fun k hk e=>by have:=g3 k hk;have:=Bz.lt;omega
    replace Bz:=Bz.below hb;replace o1:=o1.below hb;clear g3;replace hW:=hW.trans (hb.mono hW.size);clear hb;refine⟨_,rfl,⟨⟨_,hW⟩,rfl⟩,?_⟩;simp only[Act.put,pgE,pjE];refine qta 8 (some 13) (.agg #[.bool has,.slice s1 q1.length t1,.slice none 0 0,.slice a3 dec.length c3]) 1 (by kernel_rfl) (fun u _=>by kernel_rfl) ⟨⟨_,hW⟩,rfl⟩ ?_;simp only[Act.put,pgE,pjE];refine ona 10 0 rfl (by kernel_rfl) ?_;have s:=z0f x2 g #[.bool has,.slice s1 q1.length t1,.slice none 0 0,.slice a3 dec.length c3]
   rotate_left
  rotate_left 2
  focus
   skip;refine z4R 9 _ rfl ?_;have Bz:=Blk.new wd 49 #[.bool false,.slice none 0 0,.slice none 0 0,.slice none 0 0];have aP:W.heap.size≤wd.heap.size:=hW.size;have z:Below wd.heap.size wd (wd.alloc (.cells #[.bool false,.slice none 0 0,.slice none 0 0,.slice none 0 0] 49)):=by go_grown
   replace hW:=hW.trans (z.mono hW.size);clear z
   go_wp2
   refine ThenGo.to ⟨⟨⟨_,hW⟩,rfl⟩,?_⟩;generalize aX:wd.heap.size=g at*;clear aX;generalize wd.alloc (.cells #[.bool false,.slice none 0 0,.slice none 0 0,.slice none 0 0] 49)=Y0 at*;refine cla 4 (some 9) 45 #[.slice ba d.length bk] 3 (by kernel_rfl) ?_;refine(ai _ (h1.below (hB.trans (hW.mono hB.size)))).mono ?_;rintro e x1 ⟨v1,q1,rfl,e1,o1,n1,g1,hb⟩;obtain⟨s1,t1,rfl⟩:=o1.shape;have L1:∀k∈txnK.fp (.slice s1 q1.length t1) q1,W.heap.size≤k:=fun k hk=>by have:=g1 k hk;have:=hW.size;omega
   have N1:∀k∈txnK.fp (.slice s1 q1.length t1) q1,k≠g:=fun k hk e=>by have:=g1 k hk;have:=Bz.lt;omega
   replace Bz:=Bz.below hb;clear g1;replace hW:=hW.trans (hb.mono hW.size);clear hb;refine⟨_,rfl,⟨⟨_,hW⟩,rfl⟩,?_⟩;simp only[Act.put,pgE,pjE];refine cla 7 (some 12) 121 #[.slice da dec.length dk] 2 (by kernel_rfl) ?_;refine(V _ (h3.below (hB.trans (hW.mono hB.size)))).mono ?_;rintro e x2 ⟨a3,c3,rfl,o3,g3,hb⟩;have L3:∀k∈intK.fp (.slice a3 dec.length c3) dec,W.heap.size≤k:=fun k hk=>by have:=g3 k hk;have:=hW.size;omega
   have A:∀x∈txnK.fp (.slice s1 q1.length t1) q1,∀y∈intK.fp (.slice a3 dec.length c3) dec,x≠y:=fun x hx y hy e=>by have:=o1.lt x hx;have:=g3 y hy;omega
   have N3:∀k∈intK.fp (.slice a3 dec.length c3) dec,k≠g:=fun k hk e=>by have:=g3 k hk;have:=Bz.lt;omega
   replace Bz:=Bz.below hb;replace o1:=o1.below hb;clear g3;replace hW:=hW.trans (hb.mono hW.size);clear hb;refine⟨_,rfl,⟨⟨_,hW⟩,rfl⟩,?_⟩;simp only[Act.put,pgE,pjE];refine qta 8 (some 13) (.agg #[.bool has,.slice s1 q1.length t1,.slice none 0 0,.slice a3 dec.length c3]) 1 (by kernel_rfl) (fun u _=>by kernel_rfl) ⟨⟨_,hW⟩,rfl⟩ ?_;simp only[Act.put,pgE,pjE];refine ona 10 0 rfl (by kernel_rfl) ?_;have s:=z0f x2 g #[.bool has,.slice s1 q1.length t1,.slice none 0 0,.slice a3 dec.length c3]
  rotate_left
  all_goals
   have aI:W.heap.size≤g:=by omega
   have Rz:=Bz.row #[.bool has,.slice s1 q1.length t1,.slice none 0 0,.slice a3 dec.length c3];replace hW:=z0c hW aI #[.bool has,.slice s1 q1.length t1,.slice none 0 0,.slice a3 dec.length c3];replace o1:=o1.out s (fun k hk=>by simp only[List.mem_singleton];exact N1 k hk);replace o3:=o3.out s (fun k hk=>by simp only[List.mem_singleton];exact N3 k hk);refine z0d (by kernel_rfl) 49 _ _ rfl _ #[.bool has,.slice s1 q1.length t1,.slice none 0 0,.slice a3 dec.length c3] rfl rfl 49 _ Bz z0l rfl (by simp[Value.oneCell']) ?_;refine ThenGo.to ⟨⟨⟨_,hW⟩,rfl⟩,?_⟩;refine z0e (by kernel_rfl) ?_;refine⟨rfl,_,⟨s1,t1,q1,a3,c3,g,rfl,aI,Rz,e1,o1,n1,L1,N1,o3,L3,N3,A,hW⟩,?_⟩;simp only[z01,Act.put,pgE,pjE];try rfl
 rintro vs X ⟨s1,t1,q1,a3,c3,g,rfl,hg,Bg,e1,o1,n1,L1,N1,o3,L3,N3,A,hX⟩;simp only[z01,Act.put,pjE];have ax:Below w.heap.size w X:=hB.trans (hX.mono hB.size);have av:=Rb.below hX;have am:=Bx.below hX;have bj:=h2;have bn:=Bg.lt;have bl:=hX.size;obtain⟨i0,hi,bc,bd,be⟩:=info_parts z2K;obtain⟨aJ,aK⟩:=Kind.own_nil (K:=roundK) X;have ao:Hid ((roundK.fp (.slice none 0 0) ([]:List RoundQ)).Nodup∧∀k∈roundK.fp (.slice none 0 0) ([]:List RoundQ),X.heap.size≤k):=by
  rw[aK];exact⟨by simp,by simp⟩
 have ar:Hid (q1.map TxnQ.e=d.map TxnQ.e∧txnK.Own X (.slice s1 q1.length t1) q1∧(txnK.fp (.slice s1 q1.length t1) q1).Nodup∧(∀k∈txnK.fp (.slice s1 q1.length t1) q1,W.heap.size≤k)∧(∀k∈txnK.fp (.slice s1 q1.length t1) q1,k≠g)∧intK.Own X (.slice a3 dec.length c3) dec∧(∀k∈intK.fp (.slice a3 dec.length c3) dec,W.heap.size≤k)∧(∀k∈intK.fp (.slice a3 dec.length c3) dec,k≠g)∧(∀x∈txnK.fp (.slice s1 q1.length t1) q1,∀y∈intK.fp (.slice a3 dec.length c3) dec,x≠y)):=⟨e1,o1,n1,L1,N1,o3,L3,N3,A⟩
 clear aK ai V Rb Bx hB hX e1 o1 n1 L1 N1 o3 L3 N3 A h1 h3
 go_wp2
 go_loopw[4] (fun j wr=>∃ (k:Nat) (v2:Value) (qs:List RoundQ),k≤c.length∧j=.int .i64 k∧Hid (qs.map RoundQ.e=(c.take k).map RoundQ.e)∧roundK.Own wr v2 qs∧Hid ((roundK.fp v2 qs).Nodup∧∀k∈roundK.fp v2 qs,X.heap.size≤k)∧Hid (Blk wr g 49 #[.bool has,.slice s1 q1.length t1,v2,.slice a3 dec.length c3])∧Hid (Out [g] X wr)) (fun j _=>c.length-(intOf j).toNat)
 case atStart=>exact⟨0,.slice none 0 0,[],Nat.zero_le _,rfl,(rfl:_=_),aJ,ao,Bg,Out.refl _ _⟩
 case round=>
  clear ao aJ Bg;obtain⟨k,v2,qs,hk,rfl,HE,hO,HN,D,HO⟩:=hrel;obtain⟨sa,sc,rfl⟩:=hO.shape;have ay:Below w.heap.size w wr:=Out.keep ax HO.out ax.size (fun x hx=>by simp only[List.mem_singleton]at hx;omega);have a2:=HO.out.size;have aS:Blk wr w.heap.size 49 #[.bool has,.slice ba d.length bk,.slice va c.length vk,.slice da dec.length dk]:=(HO.out.block _ am.lt (by simp only[List.mem_singleton];omega)).trans am;have G:Hid (∀x∈blk (.slice sa qs.length sc),X.heap.size≤x):=fun x hx=>HN.out.2 x (by simp only[Kind.fp,List.mem_append];exact Or.inl hx)
  have b2:=aS.cell 2 _ rfl;by_cases L:k<c.length
  ·obtain⟨rb,ro,rfl,bm,hc,a8⟩:=(h2.below ay).cell (by decide) k L;have bi:rb<w.heap.size:=by
    obtain⟨bq,br,e',bg,_,_⟩:=h2.cell (by decide) k L;simp only[Option.some.injEq,Addr.mk.injEq,and_true]at e';omega
   have ah:∀j x,(roundK.cells c[k])[j]?=some x→wr.cell? ⟨rb,ro+k*2+j,none⟩=some x:=hc;have f0:=ah 0 (c[k].vr) rfl;have f1:=ah 1 (c[k].vp) rfl;have n1:=z2J RoundQ.n c k L;have M:=aO _ (List.getElem_mem L);have au:Hid (qs.length≤1048576):=by
    have:=congrArg List.length HE.out;rw[List.length_map,List.length_map,List.length_take]at this;show qs.length≤1048576;omega
   have aq:Hid (∀p':RoundQ,p'.e=RoundQ.e c[k]→(qs++[p']).map RoundQ.e=(c.take (k+1)).map RoundQ.e):=fun p' a7=>by
    rw[List.take_succ_eq_append_getElem L,List.map_append,List.map_append,HE.out,List.map_singleton,List.map_singleton,a7]
   clear HE hc ah;generalize c[k]=p at*;obtain⟨pv,pr,pw,pp⟩:=p;obtain⟨u1,u2⟩:intK.At wr pv pr∧intK.At wr pw pp:=a8;obtain⟨aQ,j1,rfl⟩:=u1.shape;obtain⟨aR,j2,rfl⟩:=u2.shape;dsimp only[RoundQ.n]at f0 f1 n1 M;rw[Nat.add_zero]at f0;have aF:=fun w (hT:intK.At w (.slice aQ pr.length j1) pr)=>z3b _ pr w hT M.1 (by omega)
   have aG:=fun w (hT:intK.At w (.slice aR pp.length j2) pp)=>z3b _ pp w hT M.2 (by omega)
   have ad:g∉blk (.slice sa qs.length sc):=fun hx=>by have:=G.out g hx;omega
   have az:w.heap.size∉blk (.slice sa qs.length sc):=fun hx=>by have:=G.out _ hx;omega
   have ae:rb∉blk (.slice sa qs.length sc):=fun hx=>by have:=G.out rb hx;omega
   have HF:Hid (∀x∈roundK.fp (.slice sa qs.length sc) qs,x<wr.heap.size):=hO.lt;have m0:=z0g (F:=blk (.slice sa qs.length sc)) (D.out.cell 2 _ rfl) ad;have m1:=z0g (F:=blk (.slice sa qs.length sc)) b2 az;have m2:=z0g (F:=blk (.slice sa qs.length sc)) f0 ae;have m3:=z0g (F:=blk (.slice sa qs.length sc)) f1 ae;have bh:(k:Int)<(c.length:Int):=by omega
   have aN:Nonempty (LatO (blk (.slice sa qs.length sc)) wr):=⟨⟨wr,Out.refl _ _⟩⟩
   have hW:Below wr.heap.size wr wr.drew:=(Below.refl _ _).drew;have E:∀w',Below wr.heap.size wr w'→∃u:LatO (blk (.slice sa qs.length sc)) wr,w'=u.val:=fun w' bb=>⟨⟨w',Out.of_below bb⟩,rfl⟩
   clear f0 f1
   go_wp2_with fail
   clear b2;refine z4i (S:=fun w'=>∃u:LatO (blk (.slice sa qs.length sc)) wr,w'=u.val) (R:=fun _ _=>False) 20 (by kernel_rfl) (fun _ _ _ _ h=>h.elim) ?_;refine sgX [(0,8),(9,6)] 7 (by kernel_rfl) (E _ hW) ?_;simp only[pkE];repeat go_big_quiet_step (fail)
   refine wpQuiet_nil ?_;refine clX 8 (some 29) 121 #[.slice aQ pr.length j1] 6 (by kernel_rfl) rfl ?_;refine(aF _ (u1.below hW)).mono ?_;rintro e w8 ⟨x1,y1,rfl,oa,ga,aD⟩;have LA:∀x∈intK.fp (.slice x1 pr.length y1) pr,wr.heap.size≤x:=fun x hx=>by have:=ga x hx;have:=hW.size;omega
   have MA:=oa.lt;replace hW:=hW.trans (aD.mono hW.size);clear aD ga;refine Or.inl ⟨_,rfl,E _ hW,?_⟩;simp only[Act.put,pgE,pjE];refine clX 15 (some 36) 121 #[.slice aR pp.length j2] 5 (by kernel_rfl) rfl ?_;refine(aG _ (u2.below hW)).mono ?_;rintro e w9 ⟨x2,y2,rfl,ob,gb,ag⟩;have LB:∀x∈intK.fp (.slice x2 pp.length y2) pp,wr.heap.size≤x:=fun x hx=>by have:=gb x hx;have:=hW.size;omega
   have Y:∀x∈intK.fp (.slice x1 pr.length y1) pr,∀y∈intK.fp (.slice x2 pp.length y2) pp,x≠y:=fun x hx y hy e=>by have:=MA x hx;have:=gb y hy;omega
   replace oa:=oa.below ag;replace hW:=hW.trans (ag.mono hW.size);clear ag gb MA;refine Or.inl ⟨_,rfl,E _ hW,?_⟩;simp only[Act.put,pgE,pjE];refine onX 16 4 rfl (by kernel_rfl) ?_
   go_wp2
   refine ThenX.to ⟨Or.inr (E _ hW),?_⟩;refine onX 17 3 rfl (by kernel_rfl) ?_;have U:Below w9.heap.size w9 (w9.alloc (.cells #[.slice x1 pr.length y1,.slice x2 pp.length y2] 172)):=by go_grown
   replace hW:=hW.trans (U.mono hW.size);replace oa:=oa.below U;replace ob:=ob.below U;have ab:∀j u,[Value.slice x1 pr.length y1,.slice x2 pp.length y2][j]?=some u→(w9.alloc (.cells #[.slice x1 pr.length y1,.slice x2 pp.length y2] 172)).cell? ((⟨w9.heap.size,0,none⟩:Addr).add j)=some u:=by
    intro j u hj;match j,hj with|0,hj=>simp at hj;subst hj;simp[Addr.add]|1,hj=>simp at hj;subst hj;simp[Addr.add]
   go_wp2
   refine ThenX.to ⟨Or.inr (E _ hW),?_⟩;generalize w9.alloc (.cells #[.slice x1 pr.length y1,.slice x2 pp.length y2] 172)=Z at*;clear U;have af:=hO.below hW;have N:=af.1;have bo:=hW.size;refine onX 18 2 rfl (by kernel_rfl) ?_;refine wpList_append_own_at _ rfl _ _ 46 rfl 0 172 i0 (.agg #[.slice none 0 0,.slice none 0 0]) 2 48 Tryz.underlying46 hi bc bd be rfl (by decide) _ qs.length (roundK.row qs) rfl N ⟨w9.heap.size,0,none⟩ 1 1 [.slice x1 pr.length y1,.slice x2 pp.length y2] rfl rfl ab ?c2 ?c3 ?c4 ?c5 ?_
   case c2=>intro u hu;simp at hu;rcases hu with rfl|rfl<;>rfl
   case c3=>have:=au.out;unfold maxLen;omega
   case c4=>have:=au.out;omega
   case c5=>omega
   intro v' w5 aa I aM aC;clear aM N ab;obtain ⟨T,aj,J,s⟩:=af.snoc (p:=⟨.slice x1 pr.length y1,pr,.slice x2 pp.length y2,pp⟩) (B:=X.heap.size) HN.out.1 HN.out.2 ⟨oa,ob⟩ (List.nodup_append.2 ⟨z0z _ _,z0z _ _,Y⟩) (fun x hx ak => by
    have:=HF.out x ak;rcases List.mem_append.1 hx with hx|hx
    ·have:=LA x hx;omega
    ·have:=LB x hx;omega) (fun x hx=>by
    rcases List.mem_append.1 hx with hx|hx
    ·have:=LA x hx;omega
    ·have:=LB x hx;omega) (by omega) aa I aC
   obtain⟨na,nc,rfl⟩:=T.shape;rw[List.length_append,List.length_singleton]at T aj J;have C:Out (blk (.slice sa qs.length sc)) wr w5:=(Out.of_below hW).trans s;have O:Blk w5 g 49 #[.bool has,.slice s1 q1.length t1,.slice sa qs.length sc,.slice a3 dec.length c3]:=(C.block g (by omega) ad).trans D.out;have aU:Hid ((qs++[(⟨.slice x1 pr.length y1,pr,.slice x2 pp.length y2,pp⟩:RoundQ)]).map RoundQ.e=(c.take (k+1)).map RoundQ.e):=aq.out _ rfl;have ap:Hid ((roundK.fp (.slice na (qs.length+1) nc) (qs++[(⟨.slice x1 pr.length y1,pr,.slice x2 pp.length y2,pp⟩:RoundQ)])).Nodup∧∀k∈roundK.fp (.slice na (qs.length+1) nc) (qs++[(⟨.slice x1 pr.length y1,pr,.slice x2 pp.length y2,pp⟩:RoundQ)]),X.heap.size≤k):=⟨aj,J⟩
   have aA:Out [g] X w5:=by
    refine⟨C.os.trans HO.out.os,C.tape.trans HO.out.tape,C.output.trans HO.out.output,Nat.le_trans a2 C.size,fun x hx hn=>?_⟩;exact(C.block x (by omega) (fun ak=>by have:=G.out x ak;omega)).trans (HO.out.block x hx hn)
   clear aj J s aq HN HF oa ob LA LB Y aa I aC af hO m0 m1 m2 m3 aF aG
   go_wp2
   refine ThenX.to ⟨Or.inr ⟨⟨_,C⟩,rfl⟩,?_⟩;simp only[Act.put,pgE,pjE];refine onX 19 1 rfl (by kernel_rfl) ?_
   go_wp2
   refine ThenX.to ⟨Or.inr ⟨⟨_,C⟩,rfl⟩,?_⟩;refine onX 20 0 rfl (by kernel_rfl) ?_;have t3:=O.cell 2 _ rfl;have t4:=O.frozen 2;have al:=O.set 2 (.slice na (qs.length+1) nc);have a1:=T.out (Out.setCell w5 g 2 (.slice na (qs.length+1) nc)) (fun x hx=>by have:=ap.out.2 x hx;simp only[List.mem_singleton];omega);have aB:Out [g] X (w5.setCell ⟨g,2,none⟩ (.slice na (qs.length+1) nc)):=aA.trans (Out.setCell w5 g 2 _);have aT:Hid (Blk (w5.setCell ⟨g,2,none⟩ (.slice na (qs.length+1) nc)) g 49 #[.bool has,.slice s1 q1.length t1,.slice na (qs.length+1) nc,.slice a3 dec.length c3]):=al;have aV:Hid (Out [g] X (w5.setCell ⟨g,2,none⟩ (.slice na (qs.length+1) nc))):=aB;clear al aB aA T O D HO;generalize qs++[(⟨.slice x1 pr.length y1,pr,.slice x2 pp.length y2,pp⟩:RoundQ)]=bf at*
   go_wp2
   refine ThenX.to ⟨Or.inl (by kernel_rfl),?_⟩;refine q0b (by kernel_rfl) ?_;clear t3 t4 C aN E ad az ae;generalize w5.setCell ⟨g,2,none⟩ (.slice na (qs.length+1) nc)=w6 at*
   go_wp2
   go_roundw
   case rel=>exact⟨k+1,_,bf,by omega,by go_num,aU,a1,ap,aT,aV⟩
   case measure=>simp[intOf];omega
  ·have a6:k=c.length:=by omega
   subst a6;have hE:=HE.out;rw[List.take_length]at hE;have an:Hid (qs.map RoundQ.e=c.map RoundQ.e):=hE;clear HE hE;have aw:Blk wr (w.heap.size+1) 49 #[.bool false,.slice none 0 0,.slice none 0 0,.slice none 0 0]:=(HO.out.block _ av.lt (by simp only[List.mem_singleton];omega)).trans av;have g0:=D.out.cell 0 _ rfl;have g1:=D.out.cell 1 _ rfl;have g2:=D.out.cell 2 _ rfl;have g3:=D.out.cell 3 _ rfl;have Rz:=aw.row #[.bool has,.slice s1 q1.length t1,.slice sa qs.length sc,.slice a3 dec.length c3];have s:=z0f wr (w.heap.size+1) #[.bool has,.slice s1 q1.length t1,.slice sa qs.length sc,.slice a3 dec.length c3];have aW:=z0c ay (g:=w.heap.size+1) (by omega) #[.bool has,.slice s1 q1.length t1,.slice sa qs.length sc,.slice a3 dec.length c3];obtain⟨e1,o1,n1,L1,N1,o3,L3,N3,A⟩:=ar.out;have oa:=(o1.out HO.out (fun x hx=>by simp only[List.mem_singleton];exact N1 x hx)).out s (fun x hx=>by have:=L1 x hx;simp only[List.mem_singleton];omega);have oc:=(o3.out HO.out (fun x hx=>by simp only[List.mem_singleton];exact N3 x hx)).out s (fun x hx=>by have:=L3 x hx;simp only[List.mem_singleton];omega);have ob:=hO.out s (fun x hx=>by have:=HN.out.2 x hx;simp only[List.mem_singleton];omega);have HR:Hid ((InstQ.e ⟨has,.slice s1 q1.length t1,q1,.slice sa qs.length sc,qs,.slice a3 dec.length c3,dec⟩=InstQ.e ⟨has,.slice ba d.length bk,d,.slice va c.length vk,c,.slice da dec.length dk,dec⟩)∧(instK.foot ⟨has,.slice s1 q1.length t1,q1,.slice sa qs.length sc,qs,.slice a3 dec.length c3,dec⟩).Nodup∧∀x∈instK.foot ⟨has,.slice s1 q1.length t1,q1,.slice sa qs.length sc,qs,.slice a3 dec.length c3,dec⟩,w.heap.size≤x):=by
    refine⟨?_,?_,?_⟩
    ·simp only[InstQ.e,e1,an.out]
    ·refine List.nodup_append.2 ⟨n1,List.nodup_append.2 ⟨HN.out.1,z0z _ _,fun x hx y hy e=>?_⟩,fun x hx y hy e=>?_⟩
     ·have:=HN.out.2 x hx;have:=o3.lt y hy;omega
     ·rcases List.mem_append.1 hy with hy|hy
      ·have:=HN.out.2 y hy;have:=o1.lt x hx;omega
      ·exact A x hx y hy e
    ·intro x hx;rcases List.mem_append.1 hx with hx|hx
     ·have:=L1 x hx;omega
     ·rcases List.mem_append.1 hx with hx|hx
      ·have:=HN.out.2 x hx;omega
      ·have:=L3 x hx;omega
   clear e1 o1 n1 L1 N1 o3 L3 N3 A s ar an hO HN G
   go_wp2_with (first|(refine z0d (by kernel_rfl) 49 _ _ rfl _ #[.bool has,.slice s1 q1.length t1,.slice sa qs.length sc,.slice a3 dec.length c3] rfl rfl 49 _ aw z0l rfl (by simp[Value.oneCell']) ?_))
   obtain⟨k0,k1,k2,k3⟩:=Rz.cel4;exact bodyPost_ret (v:=.agg #[.bool has,.slice s1 q1.length t1,.slice sa qs.length sc,.slice a3 dec.length c3]) (by simp[results,Tryz.results66,go_sem,k0,k1,k2,k3]) rfl ⟨⟨has,.slice s1 q1.length t1,q1,.slice sa qs.length sc,qs,.slice a3 dec.length c3,dec⟩,rfl,HR.out.1,⟨oa,ob,oc⟩,HR.out.2.1,HR.out.2.2,aW⟩
theorem z0s(c:Int)(w:World):
  Calls Tryz.prog 168 #[.int .i64 c] w fun e w'=>e=.returned (.agg #[.int .i64 c,.int .i64 0,.bool false,.bool false,.int .i64 0,.bool false,.slice none 0 0,.slice none 0 0,.slice none 0 0])∧Below w.heap.size w w':=by
 have hB:Below w.heap.size w (w.alloc (.cells #[.int .i64 0,.int .i64 0,.bool false,.bool false,.int .i64 0,.bool false,.slice none 0 0,.slice none 0 0,.slice none 0 0] 83)):=by go_grown
 have Rb:=Blk.new w 83 #[.int .i64 0,.int .i64 0,.bool false,.bool false,.int .i64 0,.bool false,.slice none 0 0,.slice none 0 0,.slice none 0 0];have Rr:=Rb.row #[.int .i64 c,.int .i64 0,.bool false,.bool false,.int .i64 0,.bool false,.slice none 0 0,.slice none 0 0,.slice none 0 0];have hBr:=z0c hB (g:=w.heap.size) (Nat.le_refl _) #[.int .i64 c,.int .i64 0,.bool false,.bool false,.int .i64 0,.bool false,.slice none 0 0,.slice none 0 0,.slice none 0 0];have hsr:(Tryz.prog.info? 83).map (·.size)=some (#[.int .i64 c,.int .i64 0,.bool false,.bool false,.int .i64 0,.bool false,.slice none 0 0,.slice none 0 0,.slice none 0 0]:Array Value).size:=z0v;go_enter Tryz.func168,Tryz.ntmps168
 go_wp2_with (first|(refine z0d (by kernel_rfl) 83 _ _ rfl _ #[.int .i64 c,.int .i64 0,.bool false,.bool false,.int .i64 0,.bool false,.slice none 0 0,.slice none 0 0,.slice none 0 0] rfl rfl 83 _ Rb hsr rfl (by simp[Value.oneCell']) ?_))
 obtain⟨q0,q1,q2,q3,q4,q5,q6,q7,q8⟩:=Rr.cel9;exact bodyPost_ret (v:=.agg #[.int .i64 c,.int .i64 0,.bool false,.bool false,.int .i64 0,.bool false,.slice none 0 0,.slice none 0 0,.slice none 0 0]) (by simp[results,Tryz.results168,go_sem,q0,q1,q2,q3,q4,q5,q6,q7,q8]) rfl ⟨rfl,hBr⟩
theorem z1t{p:InstQ}(h:insF p.e=0):(∀t∈p.batch,0<t.acts.length)∧(∀r∈p.rounds,0<r.rep.length∧0<r.pro.length)∧0<p.dec.length:=by
 obtain⟨h1,h2,h3,_,h5⟩:=z2r h;obtain⟨h6,_⟩:=z1p h;obtain⟨_,_,_,h7,h8⟩:=z05 h6;refine⟨?_,fun r hr=>?_,by have:p.dec.length=3:=h3;omega⟩
 ·cases hh:p.has with
  |true=>exact z8k (h8 hh)
  |false=>
   have:p.batch.map TxnQ.e=[]:=h7 hh;intro t ht;have:p.batch=[]:=List.map_eq_nil_iff.1 this;rw[this]at ht;simp at ht
 ·have:=h1 (RoundQ.e r) (List.mem_map.2 ⟨r,hr,rfl⟩);have h9:r.rep.length=3∧r.pro.length=3:=this;omega
theorem z5Y(b o:Nat)(p:InstQ)(vn:Value)(bt:List TxnQ)(w:World)(hP:InstP w b o p)(aq:b<w.heap.size)(hl:p.n≤1048576)(h0:insF p.e=0)(hT:txnK.At w vn bt)(am:bt.length+nmL TxnQ.n bt≤1048576):
  Calls Tryz.prog 113 #[.pointer (some ⟨b,o,none⟩),vn] w fun e w'=>∃q:InstQ,e=.returned (.agg (q0E (sbC p.e (bt.map TxnQ.e)) 0 false false 0 q))∧q.e=sbI p.e (bt.map TxnQ.e)∧instK.own w' q∧(instK.foot q).Nodup∧(∀k∈instK.foot q,w.heap.size≤k)∧Below w.heap.size w w':=by
 obtain⟨ah,aj,ag⟩:=z1t h0;have J:=fun w h=>z1q p w h hl ah aj ag
 have ae:=fun w (hT:txnK.At w vn bt)=>z4e vn (bt.map TxnQ.e) w (z2a hT) (by rw[List.length_map,z6l];omega)
 have T:=fun(hp:batF (bt.map TxnQ.e)=0) w (hT:txnK.At w vn bt)=>z1X vn bt w hT (z8k hp) am
 obtain⟨D,hD⟩:∃D,sbC p.e (bt.map TxnQ.e)=D:=⟨_,rfl⟩
 obtain⟨E,hE⟩:∃E,sbI p.e (bt.map TxnQ.e)=E:=⟨_,rfl⟩
 have A:Hid ((p.has=true→D=6∧E=z1L)∧(p.has=false→batF (bt.map TxnQ.e)≠0→D=batF (bt.map TxnQ.e)∧E=z1L)∧(p.has=false→batF (bt.map TxnQ.e)=0→D=0∧E=⟨true,bt.map TxnQ.e,p.e.rounds,p.dec⟩)):=by
  have af:p.e.has=p.has:=rfl;refine⟨fun h1=>?_,fun h1 h2=>?_,fun h1 h2=>?_⟩
  ·have e:D=6:=by rw[←hD];unfold sbC;rw[if_pos h0,af,h1];rfl
   exact⟨e,by rw[←hE];exact if_neg (by rw[hD,e];decide)⟩
  ·have e:D=batF (bt.map TxnQ.e):=by rw[←hD];unfold sbC;rw[if_pos h0,af,h1];rfl
   exact⟨e,by rw[←hE];exact if_neg (by rw[hD,e];exact h2)⟩
  ·have e:D=0:=by rw[←hD];unfold sbC;rw[if_pos h0,af,h1];exact h2
   exact⟨e,by rw[←hE];exact if_pos (by rw[hD,e])⟩
 rw[hD,hE];clear hD hE h0 ah aj ag;have Z:Hid (p.e.rounds=p.rounds.map RoundQ.e∧p.e.dec=p.dec):=⟨rfl,rfl⟩
 generalize ar:bt.map TxnQ.e=ad at*;generalize z:batF ad=BF at*;clear z;have U:=hP.rd;have ai:=fun(w':World) hb=>instK.rd_below (w':=w') U hb
 generalize av:p.e=pe at*;obtain⟨has,vb,ab,vr,X,vd,dec⟩:=p;obtain⟨ba,bk,rfl⟩:∃a c,vb=.slice a ab.length c:=U.1.shape;obtain⟨va,vk,rfl⟩:∃a c,vr=.slice a X.length c:=U.2.1.shape;obtain⟨da,dk,rfl⟩:∃a c,vd=.slice a dec.length c:=U.2.2.shape;obtain⟨na,nk,rfl⟩:=hT.shape;dsimp only at J ai A Z;have hB:Below w.heap.size w (w.alloc (.cells #[.int .i64 0,.int .i64 0,.bool false,.bool false,.int .i64 0,.bool false,.slice none 0 0,.slice none 0 0,.slice none 0 0] 83)):=by go_grown
 have Rb:=Blk.new w 83 #[.int .i64 0,.int .i64 0,.bool false,.bool false,.int .i64 0,.bool false,.slice none 0 0,.slice none 0 0,.slice none 0 0];have M:=hP.below hB;have c0:=M.box.c0;dsimp only at c0
 cases has with
 |true=>
  have E1:Hid (D=6∧E=z1L):=A.out.1 rfl;clear A ae T J;go_enter Tryz.func113,Tryz.ntmps113
  go_wp2_with fail
  clear c0;generalize w.alloc (.cells #[.int .i64 0,.int .i64 0,.bool false,.bool false,.int .i64 0,.bool false,.slice none 0 0,.slice none 0 0,.slice none 0 0] 83)=W at*;refine(z0s 6 _).mono ?_;rintro e w8 ⟨rfl,s⟩;replace hB:=hB.trans (s.mono hB.size);replace Rb:=Rb.below s;clear s;have Rr:=Rb.row #[.int .i64 6,.int .i64 0,.bool false,.bool false,.int .i64 0,.bool false,.slice none 0 0,.slice none 0 0,.slice none 0 0];have I:=z0c hB (g:=w.heap.size) (by omega) #[.int .i64 6,.int .i64 0,.bool false,.bool false,.int .i64 0,.bool false,.slice none 0 0,.slice none 0 0,.slice none 0 0];have L:(Tryz.prog.info? 83).map (·.size)=some (#[.int .i64 6,.int .i64 0,.bool false,.bool false,.int .i64 0,.bool false,.slice none 0 0,.slice none 0 0,.slice none 0 0]:Array Value).size:=z0v
  go_wp2_with (first|(refine z0d (by kernel_rfl) 83 _ _ rfl _ #[.int .i64 6,.int .i64 0,.bool false,.bool false,.int .i64 0,.bool false,.slice none 0 0,.slice none 0 0,.slice none 0 0] rfl rfl 83 _ Rb L rfl (by simp[Value.oneCell']) ?_))
  obtain⟨q0,q1,q2,q3,q4,q5,q6,q7,q8⟩:=Rr.cel9;exact bodyPost_ret (v:=.agg #[.int .i64 6,.int .i64 0,.bool false,.bool false,.int .i64 0,.bool false,.slice none 0 0,.slice none 0 0,.slice none 0 0]) (by simp[results,Tryz.results113,go_sem,q0,q1,q2,q3,q4,q5,q6,q7,q8]) rfl ⟨z1l,by rw[E1.out.1];rfl,E1.out.2.symm,z0r _,z0C,fun k hk=>by rw[z0x]at hk;simp at hk,I⟩
 |false=>
  have E4:Hid ((BF≠0→D=BF∧E=z1L)∧(BF=0→D=0∧E=⟨true,ad,pe.rounds,dec⟩)):=⟨A.out.2.1 rfl,A.out.2.2 rfl⟩
  clear A;go_enter Tryz.func113,Tryz.ntmps113
  go_wp2_with fail
  clear c0;generalize w.alloc (.cells #[.int .i64 0,.int .i64 0,.bool false,.bool false,.int .i64 0,.bool false,.slice none 0 0,.slice none 0 0,.slice none 0 0] 83)=W at*;refine(ae W (hT.below hB)).mono ?_;rintro e w2 ⟨rfl,N⟩;replace Rb:=Rb.below N;replace M:=M.below N;replace hB:=hB.trans (N.mono hB.size);clear N ae;by_cases z:BF=0
  case neg=>
   have E1:Hid (D=BF∧E=z1L):=E4.out.1 z;have ap:(BF !=0)=true:=by simpa using z
   clear E4 z T J
   go_wp2_with fail
   refine(z0s BF _).mono ?_;rintro e w8 ⟨rfl,s⟩;replace hB:=hB.trans (s.mono hB.size);replace Rb:=Rb.below s;clear s;have Rr:=Rb.row #[.int .i64 BF,.int .i64 0,.bool false,.bool false,.int .i64 0,.bool false,.slice none 0 0,.slice none 0 0,.slice none 0 0];have I:=z0c hB (g:=w.heap.size) (by omega) #[.int .i64 BF,.int .i64 0,.bool false,.bool false,.int .i64 0,.bool false,.slice none 0 0,.slice none 0 0,.slice none 0 0];have L:(Tryz.prog.info? 83).map (·.size)=some (#[.int .i64 BF,.int .i64 0,.bool false,.bool false,.int .i64 0,.bool false,.slice none 0 0,.slice none 0 0,.slice none 0 0]:Array Value).size:=z0v
   go_wp2_with (first|(refine z0d (by kernel_rfl) 83 _ _ rfl _ #[.int .i64 BF,.int .i64 0,.bool false,.bool false,.int .i64 0,.bool false,.slice none 0 0,.slice none 0 0,.slice none 0 0] rfl rfl 83 _ Rb L rfl (by simp[Value.oneCell']) ?_))
   obtain⟨q0,q1,q2,q3,q4,q5,q6,q7,q8⟩:=Rr.cel9;exact bodyPost_ret (v:=.agg #[.int .i64 BF,.int .i64 0,.bool false,.bool false,.int .i64 0,.bool false,.slice none 0 0,.slice none 0 0,.slice none 0 0]) (by simp[results,Tryz.results113,go_sem,q0,q1,q2,q3,q4,q5,q6,q7,q8]) rfl ⟨z1l,by rw[E1.out.1];rfl,E1.out.2.symm,z0r _,z0C,fun k hk=>by rw[z0x]at hk;simp at hk,I⟩
  case pos=>
   have E1:Hid (D=0∧E=⟨true,ad,pe.rounds,dec⟩):=E4.out.2 z;subst z;clear E4;have ao:w.heap.size+1≤w2.heap.size:=Rb.lt;obtain⟨c0,c1,c2,c3⟩:=M.box;dsimp only at c0 c1 c2 c3
   go_wp2_with fail
   clear c0 c1 c2 c3;refine(J w2 (ai w2 hB)).mono ?_;rintro e w3 ⟨q,rfl,eq,oq,nq,gq,O⟩;replace Rb:=Rb.below O;replace hB:=hB.trans (O.mono hB.size);obtain⟨qh,qb,V,qr,r,qd,d⟩:=q;obtain⟨s1,t1,rfl⟩:∃a c,qb=.slice a V.length c:=oq.1.shape;obtain⟨s2,t2,rfl⟩:∃a c,qr=.slice a r.length c:=oq.2.1.shape;obtain⟨s3,t3,rfl⟩:∃a c,qd=.slice a d.length c:=oq.2.2.shape;have G:Below w3.heap.size w3 (w3.alloc (.cells #[.bool true,.slice s1 V.length t1,.slice s2 r.length t2,.slice s3 d.length t3] 49)):=by go_grown
   have Gz:=Blk.new w3 49 #[.bool true,.slice s1 V.length t1,.slice s2 r.length t2,.slice s3 d.length t3];have Y:=(List.nodup_append.1 nq).2.1;have o2:=oq.2.1;have o3:=oq.2.2;have M2:=o2.lt;have M3:=o3.lt;have an:=O.size;have L2:∀k∈roundK.fp (.slice s2 r.length t2) r,w2.heap.size≤k:=fun k hk=>gq k (List.mem_append_right _ (List.mem_append_left _ hk))
   have L3:∀k∈intK.fp (.slice s3 d.length t3) d,w2.heap.size≤k:=fun k hk=>gq k (List.mem_append_right _ (List.mem_append_right _ hk))
   have aa:Hid (pe.rounds=r.map RoundQ.e∧d=dec):=by
    have e1:pe.dec=dec:=Z.out.2;rw[←eq]at e1⊢;exact⟨rfl,e1⟩
   replace o2:=o2.below G;replace o3:=o3.below G;replace Rb:=Rb.below G;replace hB:=hB.trans (G.mono hB.size);clear J gq nq oq eq O Z
   go_wp2_with fail
   have au:=Gz.lt;generalize w3.alloc (.cells #[.bool true,.slice s1 V.length t1,.slice s2 r.length t2,.slice s3 d.length t3] 49)=W3 at*;refine(T (by trivial) W3 (hT.below hB)).mono ?_;rintro e w4 ⟨v4,qt,rfl,e4,o4,n4,g4,C⟩;obtain⟨s4,t4,rfl⟩:=o4.shape;replace o2:=o2.below C;replace o3:=o3.below C;replace Rb:=Rb.below C;replace Gz:=Gz.below C;replace hB:=hB.trans (C.mono hB.size);have aw:w3.heap.size≤W3.heap.size:=G.size;have R5:=Rb.other (b':=w3.heap.size) (by omega) 1 (.slice s4 qt.length t4);have G5:Blk (w4.setCell ⟨w3.heap.size,1,none⟩ (.slice s4 qt.length t4)) w3.heap.size 49 #[.bool true,.slice s4 qt.length t4,.slice s2 r.length t2,.slice s3 d.length t3]:=Gz.set 1 (.slice s4 qt.length t4);have al:Below w.heap.size w (w4.setCell ⟨w3.heap.size,1,none⟩ (.slice s4 qt.length t4)):=hB.setCell (p:=⟨w3.heap.size,1,none⟩) (by show w.heap.size≤w3.heap.size;omega) _;have U1:=Out.setCell w4 w3.heap.size 1 (.slice s4 qt.length t4);have U2:=z0f (w4.setCell ⟨w3.heap.size,1,none⟩ (.slice s4 qt.length t4)) w.heap.size #[.int .i64 0,.int .i64 0,.bool false,.bool false,.int .i64 0,.bool true,.slice s4 qt.length t4,.slice s2 r.length t2,.slice s3 d.length t3];have Rr:=R5.row #[.int .i64 0,.int .i64 0,.bool false,.bool false,.int .i64 0,.bool true,.slice s4 qt.length t4,.slice s2 r.length t2,.slice s3 d.length t3];have I:=z0c al (g:=w.heap.size) (Nat.le_refl _) #[.int .i64 0,.int .i64 0,.bool false,.bool false,.int .i64 0,.bool true,.slice s4 qt.length t4,.slice s2 r.length t2,.slice s3 d.length t3];have L:(Tryz.prog.info? 83).map (·.size)=some (#[.int .i64 0,.int .i64 0,.bool false,.bool false,.int .i64 0,.bool true,.slice s4 qt.length t4,.slice s2 r.length t2,.slice s3 d.length t3]:Array Value).size:=z0v;have K2:=(o2.out U1 (fun k hk=>by have:=M2 k hk;simp only[List.mem_singleton];omega)).out U2 (fun k hk=>by have:=L2 k hk;simp only[List.mem_singleton];omega);have K3:=(o3.out U1 (fun k hk=>by have:=M3 k hk;simp only[List.mem_singleton];omega)).out U2 (fun k hk=>by have:=L3 k hk;simp only[List.mem_singleton];omega);have K4:=(o4.out U1 (fun k hk=>by have:=g4 k hk;simp only[List.mem_singleton];omega)).out U2 (fun k hk=>by have:=g4 k hk;simp only[List.mem_singleton];omega);have HR:Hid (InstQ.e ⟨true,.slice s4 qt.length t4,qt,.slice s2 r.length t2,r,.slice s3 d.length t3,d⟩=E∧(instK.foot ⟨true,.slice s4 qt.length t4,qt,.slice s2 r.length t2,r,.slice s3 d.length t3,d⟩).Nodup∧∀k∈instK.foot ⟨true,.slice s4 qt.length t4,qt,.slice s2 r.length t2,r,.slice s3 d.length t3,d⟩,w.heap.size≤k):=by
    refine⟨?_,?_,?_⟩
    ·rw[E1.out.2,aa.out.1,←aa.out.2];simp only[InstQ.e,e4]
    ·refine List.nodup_append.2 ⟨n4,Y,fun x hx y hy e=>?_⟩;have:=g4 x hx;rcases List.mem_append.1 hy with hy|hy
     ·have:=M2 y hy;omega
     ·have:=M3 y hy;omega
    ·intro k hk;rcases List.mem_append.1 hk with hk|hk
     ·have:=g4 k hk;omega
     ·rcases List.mem_append.1 hk with hk|hk
      ·have:=L2 k hk;omega
      ·have:=L3 k hk;omega
   have ak:Hid (D=0):=E1.out.1;obtain⟨k0,k1,k2,k3⟩:=Gz.cel4;have kf:=Gz.frozen 1;clear T e4 o4 n4 g4 C o2 o3 M2 M3 L2 L3 Y U1 U2 E1 aa G Gz G5 Rb
   go_wp2_with (first|(refine z0d (by kernel_rfl) 83 _ _ rfl _ #[.int .i64 0,.int .i64 0,.bool false,.bool false,.int .i64 0,.bool true,.slice s4 qt.length t4,.slice s2 r.length t2,.slice s3 d.length t3] rfl rfl 83 _ R5 L rfl (by simp[Value.oneCell']) ?_))
   obtain⟨q0,q1,q2,q3,q4,q5,q6,q7,q8⟩:=Rr.cel9;exact bodyPost_ret (v:=.agg #[.int .i64 0,.int .i64 0,.bool false,.bool false,.int .i64 0,.bool true,.slice s4 qt.length t4,.slice s2 r.length t2,.slice s3 d.length t3]) (by simp[results,Tryz.results113,go_sem,q0,q1,q2,q3,q4,q5,q6,q7,q8]) rfl ⟨⟨true,.slice s4 qt.length t4,qt,.slice s2 r.length t2,r,.slice s3 d.length t3,d⟩,by rw[ak.out],HR.out.1,⟨K4,K2,K3⟩,HR.out.2.1,HR.out.2.2,I⟩
def z2Z(rs:List RoundE)(r n:Nat)(v:Int):List RoundE:=rs.set r ⟨(rs.getD r rnd0).rep.set n v,(rs.getD r rnd0).pro⟩
def z5y(rs:List RoundE)(r n:Nat)(v:Int):List RoundE:=rs.set r ⟨(rs.getD r rnd0).rep,(rs.getD r rnd0).pro.set n v⟩
theorem z4j(rs:List RoundE)(r n:Nat)(v:Int):(z2Z rs r n v).length=rs.length:=by simp[z2Z]
theorem z6w(rs:List RoundE)(r n:Nat)(v:Int):(z5y rs r n v).length=rs.length:=by simp[z5y]
def InstQ.setP(q:InstQ)(r n:Nat)(x:Int)(hr:r<q.rounds.length):InstQ:=⟨q.has,q.vb,q.batch,q.vr,q.rounds.set r ⟨q.rounds[r].vr,q.rounds[r].rep,q.rounds[r].vp,q.rounds[r].pro.set n x⟩,q.vd,q.dec⟩
def InstQ.setR(q:InstQ)(r n:Nat)(x:Int)(hr:r<q.rounds.length):InstQ:=⟨q.has,q.vb,q.batch,q.vr,q.rounds.set r ⟨q.rounds[r].vr,q.rounds[r].rep.set n x,q.rounds[r].vp,q.rounds[r].pro⟩,q.vd,q.dec⟩
def InstQ.setD(q:InstQ)(n:Nat)(x:Int):InstQ:=⟨q.has,q.vb,q.batch,q.vr,q.rounds,q.vd,q.dec.set n x⟩
theorem z5Z(qs:List RoundQ)(r:Nat)(hr:r<qs.length):(qs.map RoundQ.e).getD r rnd0=qs[r].e:=by simp[List.getD,hr]
theorem z9H(q:InstQ)(r n:Nat)(x:Int)(hr:r<q.rounds.length):(q.setP r n x hr).e=⟨q.e.has,q.e.batch,z5y q.e.rounds r n x,q.e.dec⟩:=by
 show InstE.mk _ _ _ _=_;unfold z5y;rw[show q.e.rounds=q.rounds.map RoundQ.e from rfl,z5Z _ _ hr];simp only[InstQ.setP,List.map_set];rfl
theorem z60(q:InstQ)(r n:Nat)(x:Int)(hr:r<q.rounds.length):(q.setR r n x hr).e=⟨q.e.has,q.e.batch,z2Z q.e.rounds r n x,q.e.dec⟩:=by
 show InstE.mk _ _ _ _=_;unfold z2Z;rw[show q.e.rounds=q.rounds.map RoundQ.e from rfl,z5Z _ _ hr];simp only[InstQ.setR,List.map_set];rfl
theorem z61(q:InstQ)(n:Nat)(x:Int):(q.setD n x).e=⟨q.e.has,q.e.batch,q.e.rounds,q.e.dec.set n x⟩:=rfl
theorem z8m(zs:List Int):zs.flatMap intK.foot=[]:=by
 rw[List.flatMap_eq_nil_iff];intro _ _;rfl
theorem z2D{w:World}{g n cap k:Nat}{zs:List Int}(h:intK.Own w (.slice (some ⟨g,0,none⟩) n cap) zs)(hk:k<zs.length)(x:Int):
  intK.Own (w.setCell ⟨g,k,none⟩ (iv x)) (.slice (some ⟨g,0,none⟩) n cap) (zs.set k x)∧w.cell? ⟨g,k,none⟩=some (iv zs[k])∧w.frozen? ⟨g,k,none⟩=false:=by
 have hnd:(intK.fp (.slice (some ⟨g,0,none⟩) n cap) zs).Nodup:=z0z _ _;have h1:=(h.store hnd k hk x 0 (iv x) (by show 0<1;omega) rfl rfl (fun _ _=>trivial)).1;have h2:=h.cell k hk 0 (iv zs[k]) rfl;have e:k*intK.size+0=k:=by show k*1+0=k;omega
 rw[e]at h1 h2;exact⟨h1,h2⟩
theorem z1j{g n cap:Nat}(zs:List Int):intK.fp (.slice (some ⟨g,0,none⟩) n cap) zs=[g]:=by
 simp[Kind.fp,z8m,blk,Value.ownBlock]
theorem z4U{A B:Type}{f:A→List B}{l:List A}(h:(l.flatMap f).Nodup){a:A}(ha:a∈l):(f a).Nodup:=by
 induction l with
 |nil=>simp at ha
 |cons x t ih=>
  rw[List.flatMap_cons,List.nodup_append]at h;rcases List.mem_cons.1 ha with rfl|ha
  ·exact h.1
  ·exact ih h.2.1 ha
theorem z62{w:World}{q:InstQ}(h:instK.own w q)(I:(instK.foot q).Nodup)(r n:Nat)(hr:r<q.rounds.length)(hn:n<q.rounds[r].pro.length)(x:Int):
  ∃g cap,q.rounds[r].vp=.slice (some ⟨g,0,none⟩) q.rounds[r].pro.length cap∧g∈instK.foot q∧w.cell? ⟨g,n,none⟩=some (iv q.rounds[r].pro[n])∧w.frozen? ⟨g,n,none⟩=false∧
   instK.own (w.setCell ⟨g,n,none⟩ (iv x)) (q.setP r n x hr)∧instK.foot (q.setP r n x hr)=instK.foot q:=by
 obtain⟨o1,o2,o3⟩:=h;obtain⟨J,A,D⟩:=List.nodup_append.1 I;obtain⟨z,L,E⟩:=List.nodup_append.1 A;have y:=o2.2 _ (List.getElem_mem hr);obtain⟨oR,oP⟩:=y;obtain⟨a,cap,hv⟩:=oP.shape;rw[hv]at oP;obtain⟨g,rfl⟩:=oP.blkOf (by omega);obtain⟨k1,k2,k3⟩:=z2D oP hn x;have s:g∈roundK.foot q.rounds[r]:=List.mem_append_right _ (by rw[hv,z1j];simp);have d:g∈roundK.fp q.vr q.rounds:=List.mem_append_right _ (List.mem_flatMap.2 ⟨_,List.getElem_mem hr,s⟩);have hg:g∈instK.foot q:=List.mem_append_right _ (List.mem_append_left _ d);have hU:=Out.setCell w g n (iv x);have G:(roundK.foot q.rounds[r]).Nodup:=z4U (List.nodup_append.1 z).2.1 (List.getElem_mem hr);have C:∀k∈intK.fp q.rounds[r].vr q.rounds[r].rep,k∉[g]:=fun k hk c=>by
  simp only[List.mem_singleton]at c;subst c;have:=(List.nodup_append.1 G).2.2 k hk k (by rw[hv,z1j];simp);exact this rfl
 have ht:=o2.turn z r hr ⟨q.rounds[r].vr,q.rounds[r].rep,q.rounds[r].vp,q.rounds[r].pro.set n x⟩ hU (fun k hk=>by simp only[List.mem_singleton]at hk;rw[hk];exact s) rfl (by show intK.fp _ _++intK.fp _ _=intK.fp _ _++intK.fp _ _;rw[hv,z1j,z1j]) ⟨oR.out hU C,by rw[hv];exact k1⟩;refine⟨g,cap,hv,hg,k2,k3,⟨o1.out hU (fun k hk c=>?_),ht.1,o3.out hU (fun k hk c=>?_)⟩,?_⟩
 ·simp only[List.mem_singleton]at c;subst c;exact D k hk k (List.mem_append_left _ d) rfl
 ·simp only[List.mem_singleton]at c;subst c;exact E k d k hk rfl
 ·show txnK.fp _ _++(roundK.fp _ _++intK.fp _ _)=_;rw[show(q.setP r n x hr).rounds=q.rounds.set r ⟨q.rounds[r].vr,q.rounds[r].rep,q.rounds[r].vp,q.rounds[r].pro.set n x⟩from rfl];rw[show(q.setP r n x hr).vr=q.vr from rfl,ht.2];rfl
theorem z2N{w:World}{q:InstQ}(h:instK.own w q)(I:(instK.foot q).Nodup)(r n:Nat)(hr:r<q.rounds.length)(hn:n<q.rounds[r].rep.length)(x:Int):
  ∃g cap,q.rounds[r].vr=.slice (some ⟨g,0,none⟩) q.rounds[r].rep.length cap∧g∈instK.foot q∧w.cell? ⟨g,n,none⟩=some (iv q.rounds[r].rep[n])∧w.frozen? ⟨g,n,none⟩=false∧
   instK.own (w.setCell ⟨g,n,none⟩ (iv x)) (q.setR r n x hr)∧instK.foot (q.setR r n x hr)=instK.foot q:=by
 obtain⟨o1,o2,o3⟩:=h;obtain⟨J,A,D⟩:=List.nodup_append.1 I;obtain⟨z,L,E⟩:=List.nodup_append.1 A;have y:=o2.2 _ (List.getElem_mem hr);obtain⟨oR,oP⟩:=y;obtain⟨a,cap,hv⟩:=oR.shape;rw[hv]at oR;obtain⟨g,rfl⟩:=oR.blkOf (by omega);obtain⟨k1,k2,k3⟩:=z2D oR hn x;have s:g∈roundK.foot q.rounds[r]:=List.mem_append_left _ (by rw[hv,z1j];simp);have d:g∈roundK.fp q.vr q.rounds:=List.mem_append_right _ (List.mem_flatMap.2 ⟨_,List.getElem_mem hr,s⟩);have hg:g∈instK.foot q:=List.mem_append_right _ (List.mem_append_left _ d);have hU:=Out.setCell w g n (iv x);have G:(roundK.foot q.rounds[r]).Nodup:=z4U (List.nodup_append.1 z).2.1 (List.getElem_mem hr);have C:∀k∈intK.fp q.rounds[r].vp q.rounds[r].pro,k∉[g]:=fun k hk c=>by
  simp only[List.mem_singleton]at c;subst c;have:=(List.nodup_append.1 G).2.2 k (by rw[hv,z1j];simp) k hk;exact this rfl
 have ht:=o2.turn z r hr ⟨q.rounds[r].vr,q.rounds[r].rep.set n x,q.rounds[r].vp,q.rounds[r].pro⟩ hU (fun k hk=>by simp only[List.mem_singleton]at hk;rw[hk];exact s) rfl (by show intK.fp _ _++intK.fp _ _=intK.fp _ _++intK.fp _ _;rw[hv,z1j,z1j]) ⟨by rw[hv];exact k1,oP.out hU C⟩;refine⟨g,cap,hv,hg,k2,k3,⟨o1.out hU (fun k hk c=>?_),ht.1,o3.out hU (fun k hk c=>?_)⟩,?_⟩
 ·simp only[List.mem_singleton]at c;subst c;exact D k hk k (List.mem_append_left _ d) rfl
 ·simp only[List.mem_singleton]at c;subst c;exact E k d k hk rfl
 ·show txnK.fp _ _++(roundK.fp _ _++intK.fp _ _)=_;rw[show(q.setR r n x hr).rounds=q.rounds.set r ⟨q.rounds[r].vr,q.rounds[r].rep.set n x,q.rounds[r].vp,q.rounds[r].pro⟩from rfl];rw[show(q.setR r n x hr).vr=q.vr from rfl,ht.2];rfl
theorem z3R{w:World}{q:InstQ}(h:instK.own w q)(z:(instK.foot q).Nodup)(n:Nat)(hn:n<q.dec.length)(x:Int):
  ∃g cap,q.vd=.slice (some ⟨g,0,none⟩) q.dec.length cap∧g∈instK.foot q∧w.cell? ⟨g,n,none⟩=some (iv q.dec[n])∧w.frozen? ⟨g,n,none⟩=false∧
   instK.own (w.setCell ⟨g,n,none⟩ (iv x)) (q.setD n x)∧instK.foot (q.setD n x)=instK.foot q:=by
 obtain⟨o1,o2,o3⟩:=h;obtain⟨A,r,s⟩:=List.nodup_append.1 z;obtain⟨C,D,y⟩:=List.nodup_append.1 r;obtain⟨a,cap,hv⟩:=o3.shape;rw[hv]at o3;obtain⟨g,rfl⟩:=o3.blkOf (by omega);obtain⟨k1,k2,k3⟩:=z2D o3 hn x;have d:g∈intK.fp q.vd q.dec:=by rw[hv,z1j];simp
 have hg:g∈instK.foot q:=List.mem_append_right _ (List.mem_append_right _ d);have hU:=Out.setCell w g n (iv x);refine⟨g,cap,hv,hg,k2,k3,⟨o1.out hU (fun k hk c=>?_),o2.out hU (fun k hk c=>?_),?_⟩,?_⟩
 ·simp only[List.mem_singleton]at c;subst c;exact s k hk k (List.mem_append_right _ d) rfl
 ·simp only[List.mem_singleton]at c;subst c;exact y k hk k d rfl
 ·show intK.Own _ q.vd _;rw[hv];exact k1
 ·show txnK.fp _ _++(roundK.fp _ _++intK.fp q.vd _)=txnK.fp _ _++(roundK.fp _ _++intK.fp q.vd _)
  rw[hv,z1j,z1j];rfl
def atC(x:InstE)(node round:Int):Int:=if insF x=0 then(if inB node 0 2 && inB round 0 ((x.rounds.length:Int)-1)then 0 else 3)else insF x
theorem z6x{x:InstE}{node round:Int}(h:atC x node round=0):insF x=0∧∃n r:Nat,node=(n:Int)∧round=(r:Int)∧n<3∧r<x.rounds.length:=by
 unfold atC at h;by_cases h0:insF x=0
 ·rw[if_pos h0]at h;by_cases h1:(inB node 0 2 && inB round 0 ((x.rounds.length:Int)-1))=true
  ·rw[Bool.and_eq_true]at h1;obtain⟨h1,h2⟩:=h1;unfold inB at h1 h2;rw[decide_eq_true_eq]at h1 h2;exact⟨h0,node.toNat,round.toNat,by omega,by omega,by omega,by omega⟩
  ·rw[if_neg h1]at h;exact absurd h (by decide)
 ·rw[if_neg h0]at h;exact absurd h h0
def prC(x:InstE)(node round mask:Int):Int:=if atC x node round=0 then(if proA x.rounds round.toNat node.toNat=3 then(if repA x.rounds round.toNat node.toNat=3 then 8 else pfC (x.rounds.getD round.toNat rnd0).rep mask)else 6)else atC x node round
def prI(x:InstE)(node round mask:Int):InstE:=if prC x node round mask=0 then⟨x.has,x.batch,z5y x.rounds round.toNat node.toNat (pfV (x.rounds.getD round.toNat rnd0).rep mask),x.dec⟩else z1L
theorem z5f(x:InstE)(q round d:Int):(atC x q round≠0→prC x q round d=atC x q round∧prI x q round d=z1L)∧
  (atC x q round=0→insF x=0∧∃ n r:Nat,q=(n:Int)∧round=(r:Int)∧n < 3∧r < x.rounds.length ∧
   (proA x.rounds r n≠3→prC x q round d=6∧prI x q round d=z1L)∧
   (proA x.rounds r n=3→repA x.rounds r n=3→prC x q round d=8∧prI x q round d=z1L)∧
   (proA x.rounds r n=3→repA x.rounds r n≠3→pfC (x.rounds.getD r rnd0).rep d≠0→prC x q round d=pfC (x.rounds.getD r rnd0).rep d∧prI x q round d=z1L)∧
   (proA x.rounds r n=3→repA x.rounds r n≠3→pfC (x.rounds.getD r rnd0).rep d=0→prC x q round d=0∧prI x q round d=⟨x.has,x.batch,z5y x.rounds r n (pfV (x.rounds.getD r rnd0).rep d),x.dec⟩)):=by
 have s:∀c,prC x q round d=c→c≠0→prI x q round d=z1L:=fun c hc h0=>if_neg (by rw[hc];exact h0)
 refine⟨fun h0=>?_,fun h0=>?_⟩
 ·have e:prC x q round d=atC x q round:=if_neg h0;exact⟨e,s _ e h0⟩
 ·obtain⟨hi,n,r,rfl,rfl,hn,hr⟩:=z6x h0;refine⟨hi,n,r,rfl,rfl,hn,hr,fun h1=>?_,fun h1 h2=>?_,fun h1 h2 h3=>?_,fun h1 h2 h3=>?_⟩
  ·have e:prC x n r d=6:=by unfold prC;rw[if_pos h0,Int.toNat_natCast,Int.toNat_natCast,if_neg h1]
   exact⟨e,s _ e (by decide)⟩
  ·have e:prC x n r d=8:=by unfold prC;rw[if_pos h0,Int.toNat_natCast,Int.toNat_natCast,if_pos h1,if_pos h2]
   exact⟨e,s _ e (by decide)⟩
  ·have e:prC x n r d=pfC (x.rounds.getD r rnd0).rep d:=by unfold prC;rw[if_pos h0,Int.toNat_natCast,Int.toNat_natCast,if_pos h1,if_neg h2]
   exact⟨e,s _ e h3⟩
  ·have e:prC x n r d=0:=by unfold prC;rw[if_pos h0,Int.toNat_natCast,Int.toNat_natCast,if_pos h1,if_neg h2,h3]
   exact⟨e,by unfold prI;rw[if_pos e,Int.toNat_natCast,Int.toNat_natCast]⟩
theorem z03{w w':World}{b o:Nat}{v:Value}(h:w.cell? ⟨b,o,none⟩=some v)(hb:Below w.heap.size w w'):w'.cell? ⟨b,o,none⟩=some v:=by
 have hlt:b<w.heap.size:=by
  rcases Nat.lt_or_ge b w.heap.size with h1|h1
  ·exact h1
  ·exfalso
   have:w.heap[b]?=none:=Array.getElem?_eq_none h1;simp[World.cell?,this]at h
 rw[hb.cell (p:=⟨b,o,none⟩) hlt];exact h
theorem z1a(node:Int)(w:World):
  Calls Tryz.prog 167 #[.int .i64 node] w fun e w'=>e=.returned (.bool (inB node 0 2))∧w'=w:=by
 go_enter Tryz.func167,Tryz.ntmps167
 go_wp2_with (go_at_call 55;refine(z0E _ _ _ _).mono ?_;rintro e w' ⟨rfl,rfl⟩)
 go_ret;exact⟨rfl,rfl⟩
theorem z4k(b o:Nat)(p:InstQ)(node round:Int)(w:World)(hP:InstP w b o p)(h4:p.rounds.length≤4):
  Calls Tryz.prog 171 #[.pointer (some ⟨b,o,none⟩),.int .i64 node,.int .i64 round] w fun e w'=>e=.returned (.bool (inB node 0 2 && inB round 0 ((p.rounds.length:Int)-1)))∧Below w.heap.size w w':=by
 have hB:Below w.heap.size w w:=Below.refl _ _;obtain⟨has,vb,batch,vr,rounds,vd,dec⟩:=p;obtain⟨va,vk,rfl⟩:∃a c,vr=.slice a rounds.length c:=hP.rounds.shape;obtain⟨c0,c1,c2,c3⟩:=hP.box;dsimp only at c0 c1 c2 c3 h4
 cases hN:inB node 0 2 with
 |false=>
  go_enter Tryz.func171,Tryz.ntmps171
  go_wp2_with (first|(go_at_call 167;refine(z1a _ _).mono ?_;rintro e w' ⟨rfl,rfl⟩)|(go_at_call 55;refine(z0E _ _ _ _).mono ?_;rintro e w' ⟨rfl,rfl⟩))
  go_ret;exact⟨by simp,hB⟩
 |true=>
  go_enter Tryz.func171,Tryz.ntmps171
  go_wp2_with (first|(go_at_call 167;refine(z1a _ _).mono ?_;rintro e w' ⟨rfl,rfl⟩)|(go_at_call 55;refine(z0E _ _ _ _).mono ?_;rintro e w' ⟨rfl,rfl⟩))
  go_ret;exact⟨by simp,hB⟩
theorem z3c{w:World}{b o:Nat}{p:InstQ}(hP:InstP w b o p)(r:Nat)(hr:r<p.rounds.length)(hF:z0K p.e.rounds=0):
  ∃rb ro vk xb xo xc yb yo yc,p.vr=.slice (some ⟨rb,ro,none⟩) p.rounds.length vk∧w.cell? ⟨rb,ro+r*2,none⟩=some (.slice (some ⟨xb,xo,none⟩) 3 xc)∧w.cell? ⟨rb,ro+r*2+1,none⟩=some (.slice (some ⟨yb,yo,none⟩) 3 yc)∧
   (∀n,n<3→w.cell? ⟨xb,xo+n,none⟩=some (.int .i64 (repA p.e.rounds r n)))∧(∀n,n<3→w.cell? ⟨yb,yo+n,none⟩=some (.int .i64 (proA p.e.rounds r n)))∧
   Row .i64 w (some ⟨xb,xo,none⟩) (p.e.rounds.getD r rnd0).rep∧Row .i64 w (some ⟨yb,yo,none⟩) (p.e.rounds.getD r rnd0).pro:=by
 obtain⟨va,vk,hv⟩:=hP.rounds.shape;have hR:=hP.rounds;rw[hv]at hR;obtain⟨rb,ro,G,J,hc,I⟩:=hR.cell (by decide) r hr;have C:∀j x,(roundK.cells p.rounds[r])[j]?=some x→w.cell? ⟨rb,ro+r*2+j,none⟩=some x:=hc;have r0:=C 0 (p.rounds[r].vr) rfl;have r1:=C 1 (p.rounds[r].vp) rfl;rw[Nat.add_zero]at r0;have A:p.e.rounds.getD r rnd0=RoundQ.e p.rounds[r]:=z0X p.rounds r hr;obtain⟨y,z⟩:=z1g hF r (by show r<(p.rounds.map RoundQ.e).length;rw[List.length_map];exact hr);have e1:(p.e.rounds.getD r rnd0).rep=p.rounds[r].rep:=by rw[A];rfl
 have e2:(p.e.rounds.getD r rnd0).pro=p.rounds[r].pro:=by rw[A];rfl
 rw[e1]at y;rw[e2]at z;obtain⟨D,E⟩:intK.At w p.rounds[r].vr p.rounds[r].rep∧intK.At w p.rounds[r].vp p.rounds[r].pro:=I;obtain⟨xa,xc,xb,xo,hx,rfl,_,d⟩:=z2d D y 0 (by omega);obtain⟨ya,yc,yb,yo,hy,rfl,_,q⟩:=z2d E z 0 (by omega);rw[hx]at r0;rw[hy]at r1;have c:∀ (b o:Nat) (zs:List Int),zs.length=3→Row .i64 w (some ⟨b,o,none⟩) zs→∀n,n<3→w.cell? ⟨b,o+n,none⟩=some (.int .i64 (zs.getD n 0)):=fun b o zs hl hR n hn=>by
  obtain⟨b',o',he,_,s⟩:=hR n (by omega);simp only[Option.some.injEq,Addr.mk.injEq,and_true]at he;obtain⟨rfl,rfl⟩:=he;exact s
 refine⟨rb,ro,vk,xb,xo,xc,yb,yo,yc,by rw[hv,G],r0,r1,fun n hn=>?_,fun n hn=>?_,by rw[e1];exact d,by rw[e2];exact q⟩
 ·have:repA p.e.rounds r n=p.rounds[r].rep.getD n 0:=by unfold repA;rw[e1]
  rw[this];exact c _ _ _ (z0A y) d n hn
 ·have:proA p.e.rounds r n=p.rounds[r].pro.getD n 0:=by unfold proA;rw[e2]
  rw[this];exact c _ _ _ (z0A z) q n hn
theorem z65{p q:InstQ}(h:q.e=p.e)(hw:Wel p.e.rounds)(r:Nat)(hr:r<p.e.rounds.length):∃hq:r<q.rounds.length,q.rounds[r].rep.length=3∧q.rounds[r].pro.length=3:=by
 have e:q.rounds.map RoundQ.e=p.e.rounds:=by rw[←h];rfl
 have hq:r<q.rounds.length:=by rw[←e,List.length_map]at hr;exact hr
 have:=z1o hw r hr;rw[←e,z0X _ _ hq]at this;exact⟨hq,this⟩
theorem z00(b o:Nat)(p:InstQ)(y round G:Int)(w:World)(hP:InstP w b o p)(a7:b<w.heap.size)(hl:p.n≤1048576)(h0:insF p.e=0):
  Calls Tryz.prog 115 #[.pointer (some ⟨b,o,none⟩),.int .i64 y,.int .i64 round,.int .i64 G] w fun e w'=>∃q:InstQ,e=.returned (.agg (q0E (prC p.e y round G) 0 false false 0 q))∧q.e=prI p.e y round G∧instK.own w' q∧(instK.foot q).Nodup∧(∀k∈instK.foot q,w.heap.size≤k)∧Below w.heap.size w w':=by
 obtain⟨aG,aL,aC⟩:=z1t h0;obtain⟨al,⟨_,h4⟩,a8,hF,_⟩:=z2r h0;have T:=fun w h=>z1q p w h hl aG aL aC
 have ax:p.rounds.length≤4:=by have:p.e.rounds.length=p.rounds.length:=List.length_map _;omega
 have ap:=fun w' hP=>z4k b o p y round w' hP ax
 have ad:=fun(r:Nat) (hr:r<p.e.rounds.length)=>z3c hP r (by have:p.e.rounds.length=p.rounds.length:=List.length_map _;omega) hF
 have Z:=fun(q:InstQ) (hq:q.e=p.e) (r:Nat) (hr:r<p.e.rounds.length)=>z65 hq al r hr
 have HF:=z5f p.e y round G;have HA:Hid (atC p.e y round=if inB y 0 2 && inB round 0 ((p.rounds.length:Int)-1)then 0 else 3):=by
  have:p.e.rounds.length=p.rounds.length:=List.length_map _;unfold atC;rw[if_pos h0,this];exact(rfl:_=_)
 have aK:p.e.rounds.length=p.rounds.length:=List.length_map _;have aO:Hid (∀ (q:InstQ),q.e=p.e→∀r n v hq,(q.setP r n v hq).e=⟨p.e.has,p.e.batch,z5y p.e.rounds r n v,p.e.dec⟩):=fun q hq r n v hh=>by rw[z9H,hq]
 generalize aP:(inB y 0 2 && inB round 0 ((p.rounds.length:Int)-1))=AA at*;clear aP aG aL aC hF h0;generalize prC p.e y round G=D at*;generalize prI p.e y round G=E at*;generalize atC p.e y round=C at*;replace HF:Hid _:=HF;have ah:=hP.rd;have aJ:=fun(w':World) hb=>instK.rd_below (w':=w') ah hb
 have aw:Hid (p.e.rounds.length=p.rounds.length):=aK;clear aK;generalize aT:p.e=pe at*;clear aT;obtain⟨has,vb,ao,vr,V,vd,dec⟩:=p;obtain⟨ba,bk,rfl⟩:∃a c,vb=.slice a ao.length c:=ah.1.shape;obtain⟨va,vk,rfl⟩:∃a c,vr=.slice a V.length c:=ah.2.1.shape;obtain⟨da,dk,rfl⟩:∃a c,vd=.slice a dec.length c:=ah.2.2.shape;dsimp only at T aJ ax ap ad aw HA;have hB:Below w.heap.size w (w.alloc (.cells #[.int .i64 0,.int .i64 0,.bool false,.bool false,.int .i64 0,.bool false,.slice none 0 0,.slice none 0 0,.slice none 0 0] 83)):=by go_grown
 have Rb:=Blk.new w 83 #[.int .i64 0,.int .i64 0,.bool false,.bool false,.int .i64 0,.bool false,.slice none 0 0,.slice none 0 0,.slice none 0 0];go_enter Tryz.func115,Tryz.ntmps115
 go_wp2_with fail
 generalize w.alloc (.cells #[.int .i64 0,.int .i64 0,.bool false,.bool false,.int .i64 0,.bool false,.slice none 0 0,.slice none 0 0,.slice none 0 0] 83)=W at*;refine(ap W (hP.below hB)).mono ?_;rintro e w1 ⟨rfl,ar⟩;replace Rb:=Rb.below ar;replace hB:=hB.trans (ar.mono hB.size);clear ar ap
 cases AA with
 |false=>
  have hC:C=3:=HA.out;have E1:Hid (D=3∧E=z1L):=by
   obtain⟨h1,h2⟩:=HF.out.1 (by rw[hC];decide);exact⟨h1.trans hC,h2⟩
  clear HF ad Z T hC HA
  go_wp2_with fail
  refine(z0s 3 _).mono ?_;rintro e w8 ⟨rfl,A⟩;replace hB:=hB.trans (A.mono hB.size);replace Rb:=Rb.below A;clear A;have Rr:=Rb.row #[.int .i64 3,.int .i64 0,.bool false,.bool false,.int .i64 0,.bool false,.slice none 0 0,.slice none 0 0,.slice none 0 0];have I:=z0c hB (g:=w.heap.size) (by omega) #[.int .i64 3,.int .i64 0,.bool false,.bool false,.int .i64 0,.bool false,.slice none 0 0,.slice none 0 0,.slice none 0 0];have N:(Tryz.prog.info? 83).map (·.size)=some (#[.int .i64 3,.int .i64 0,.bool false,.bool false,.int .i64 0,.bool false,.slice none 0 0,.slice none 0 0,.slice none 0 0]:Array Value).size:=z0v
  go_wp2_with (first|(refine z0d (by kernel_rfl) 83 _ _ rfl _ #[.int .i64 3,.int .i64 0,.bool false,.bool false,.int .i64 0,.bool false,.slice none 0 0,.slice none 0 0,.slice none 0 0] rfl rfl 83 _ Rb N rfl (by simp[Value.oneCell']) ?_))
  obtain⟨q0,q1,q2,q3,q4,q5,q6,q7,q8⟩:=Rr.cel9;exact bodyPost_ret (v:=.agg #[.int .i64 3,.int .i64 0,.bool false,.bool false,.int .i64 0,.bool false,.slice none 0 0,.slice none 0 0,.slice none 0 0]) (by simp[results,Tryz.results115,go_sem,q0,q1,q2,q3,q4,q5,q6,q7,q8]) rfl ⟨z1l,by rw[E1.out.1];rfl,E1.out.2.symm,z0r _,z0C,fun k hk=>by rw[z0x]at hk;simp at hk,I⟩
 |true=>
  have hC:C=0:=HA.out;obtain⟨aQ,n,r,rfl,rfl,hn,hr,f6,f8,fP,f0⟩:=HF.out.2 hC;have F6:Hid _:=f6;have F8:Hid _:=f8;have FP:Hid _:=fP;have F0:Hid _:=f0;clear aQ f6 f8 fP f0 HF hC HA;obtain⟨rb,ro,bd,xb,xo,xc,yb,yo,yc,aM,k0,k1,kx,ky,Rx,Ry⟩:=ad r hr;simp only[Value.slice.injEq,true_and]at aM;obtain⟨rfl,rfl⟩:=aM;replace kx:=kx n hn;replace ky:=ky n hn;replace k0:=z03 k0 hB;replace k1:=z03 k1 hB;replace kx:=z03 kx hB;replace ky:=z03 ky hB;have ae:=hP.below hB;obtain⟨c0,c1,c2,c3⟩:=ae.box;dsimp only at c0 c1 c2 c3;have bc:(r:Int)<V.length:=by have:=aw.out;omega
  have bb:(n:Int)<3:=by omega
  have aF:=(z1o al r hr).1;have ab:=fun a c w (hR:Row .i64 w a (pe.rounds.getD r rnd0).rep)=>z3v a c (pe.rounds.getD r rnd0).rep G w hR (by omega)
  rw[aF]at ab;generalize pfC (pe.rounds.getD r rnd0).rep G=PC at*;generalize pfV (pe.rounds.getD r rnd0).rep G=PV at*;generalize aV:proA pe.rounds r n=PP at*;generalize aW:repA pe.rounds r n=RE at*;clear ad aV aW aF;by_cases L:PP=3
  case neg=>
   have E1:Hid (D=6∧E=z1L):=F6.out L;have hq:(PP !=3)=true:=by simpa using L
   clear F6 F8 FP F0 L Z T ab
   go_wp2_with fail
   refine(z0s 6 _).mono ?_;rintro e w8 ⟨rfl,A⟩;replace hB:=hB.trans (A.mono hB.size);replace Rb:=Rb.below A;clear A;have Rr:=Rb.row #[.int .i64 6,.int .i64 0,.bool false,.bool false,.int .i64 0,.bool false,.slice none 0 0,.slice none 0 0,.slice none 0 0];have I:=z0c hB (g:=w.heap.size) (by omega) #[.int .i64 6,.int .i64 0,.bool false,.bool false,.int .i64 0,.bool false,.slice none 0 0,.slice none 0 0,.slice none 0 0];have N:(Tryz.prog.info? 83).map (·.size)=some (#[.int .i64 6,.int .i64 0,.bool false,.bool false,.int .i64 0,.bool false,.slice none 0 0,.slice none 0 0,.slice none 0 0]:Array Value).size:=z0v
   go_wp2_with (first|(refine z0d (by kernel_rfl) 83 _ _ rfl _ #[.int .i64 6,.int .i64 0,.bool false,.bool false,.int .i64 0,.bool false,.slice none 0 0,.slice none 0 0,.slice none 0 0] rfl rfl 83 _ Rb N rfl (by simp[Value.oneCell']) ?_))
   obtain⟨q0,q1,q2,q3,q4,q5,q6,q7,q8⟩:=Rr.cel9;exact bodyPost_ret (v:=.agg #[.int .i64 6,.int .i64 0,.bool false,.bool false,.int .i64 0,.bool false,.slice none 0 0,.slice none 0 0,.slice none 0 0]) (by simp[results,Tryz.results115,go_sem,q0,q1,q2,q3,q4,q5,q6,q7,q8]) rfl ⟨z1l,by rw[E1.out.1];rfl,E1.out.2.symm,z0r _,z0C,fun k hk=>by rw[z0x]at hk;simp at hk,I⟩
  case pos=>
   have hq:(PP !=3)=false:=by rw[L];rfl
   by_cases U:RE=3
   case pos=>
    have E1:Hid (D=8∧E=z1L):=F8.out L U;have aI:(RE==3)=true:=by rw[U];rfl
    clear F6 F8 FP F0 L U Z T ab
    go_wp2_with fail
    refine(z0s 8 _).mono ?_;rintro e w8 ⟨rfl,A⟩;replace hB:=hB.trans (A.mono hB.size);replace Rb:=Rb.below A;clear A;have Rr:=Rb.row #[.int .i64 8,.int .i64 0,.bool false,.bool false,.int .i64 0,.bool false,.slice none 0 0,.slice none 0 0,.slice none 0 0];have I:=z0c hB (g:=w.heap.size) (by omega) #[.int .i64 8,.int .i64 0,.bool false,.bool false,.int .i64 0,.bool false,.slice none 0 0,.slice none 0 0,.slice none 0 0];have N:(Tryz.prog.info? 83).map (·.size)=some (#[.int .i64 8,.int .i64 0,.bool false,.bool false,.int .i64 0,.bool false,.slice none 0 0,.slice none 0 0,.slice none 0 0]:Array Value).size:=z0v
    go_wp2_with (first|(refine z0d (by kernel_rfl) 83 _ _ rfl _ #[.int .i64 8,.int .i64 0,.bool false,.bool false,.int .i64 0,.bool false,.slice none 0 0,.slice none 0 0,.slice none 0 0] rfl rfl 83 _ Rb N rfl (by simp[Value.oneCell']) ?_))
    obtain⟨q0,q1,q2,q3,q4,q5,q6,q7,q8⟩:=Rr.cel9;exact bodyPost_ret (v:=.agg #[.int .i64 8,.int .i64 0,.bool false,.bool false,.int .i64 0,.bool false,.slice none 0 0,.slice none 0 0,.slice none 0 0]) (by simp[results,Tryz.results115,go_sem,q0,q1,q2,q3,q4,q5,q6,q7,q8]) rfl ⟨z1l,by rw[E1.out.1];rfl,E1.out.2.symm,z0r _,z0C,fun k hk=>by rw[z0x]at hk;simp at hk,I⟩
   case neg=>
    have F1:Hid ((PC≠0→D=PC∧E=z1L)∧(PC=0→D=0∧E=⟨pe.has,pe.batch,z5y pe.rounds r n PV,pe.dec⟩)):=⟨FP.out L U,F0.out L U⟩
    have aI:(RE==3)=false:=by simpa using U
    clear F6 F8 FP F0 L U
    go_wp2_with fail
    clear hq aI kx ky k0 k1 c0 c1 c2 c3;refine(ab _ _ w1 (Rx.below hB)).mono ?_;rintro e w2 ⟨rfl,af⟩;have J:Below w2.heap.size w2 (w2.alloc (.cells #[.int .i64 PC,.int .i64 PV] 38)):=by go_grown
    have BI:=Blk.new w2 38 #[.int .i64 PC,.int .i64 PV];have a6:w.heap.size<w2.heap.size:=(Rb.below af).lt;replace Rb:=(Rb.below af).below J;replace hB:=hB.trans (af.mono hB.size);replace hB:=hB.trans (J.mono hB.size);clear af ab J ae;by_cases aa:PC=0
    case neg=>
     have E1:Hid (D=PC∧E=z1L):=F1.out.1 aa;have a2:(PC !=0)=true:=by simpa using aa
     clear F1 aa Z T
     go_wp2_with fail
     refine(z0s PC _).mono ?_;rintro e w8 ⟨rfl,A⟩;replace hB:=hB.trans (A.mono hB.size);replace Rb:=Rb.below A;clear A;have Rr:=Rb.row #[.int .i64 PC,.int .i64 0,.bool false,.bool false,.int .i64 0,.bool false,.slice none 0 0,.slice none 0 0,.slice none 0 0];have I:=z0c hB (g:=w.heap.size) (by omega) #[.int .i64 PC,.int .i64 0,.bool false,.bool false,.int .i64 0,.bool false,.slice none 0 0,.slice none 0 0,.slice none 0 0];have N:(Tryz.prog.info? 83).map (·.size)=some (#[.int .i64 PC,.int .i64 0,.bool false,.bool false,.int .i64 0,.bool false,.slice none 0 0,.slice none 0 0,.slice none 0 0]:Array Value).size:=z0v
     go_wp2_with (first|(refine z0d (by kernel_rfl) 83 _ _ rfl _ #[.int .i64 PC,.int .i64 0,.bool false,.bool false,.int .i64 0,.bool false,.slice none 0 0,.slice none 0 0,.slice none 0 0] rfl rfl 83 _ Rb N rfl (by simp[Value.oneCell']) ?_))
     obtain⟨q0,q1,q2,q3,q4,q5,q6,q7,q8⟩:=Rr.cel9;exact bodyPost_ret (v:=.agg #[.int .i64 PC,.int .i64 0,.bool false,.bool false,.int .i64 0,.bool false,.slice none 0 0,.slice none 0 0,.slice none 0 0]) (by simp[results,Tryz.results115,go_sem,q0,q1,q2,q3,q4,q5,q6,q7,q8]) rfl ⟨z1l,by rw[E1.out.1];rfl,E1.out.2.symm,z0r _,z0C,fun k hk=>by rw[z0x]at hk;simp at hk,I⟩
    case pos=>
     have E1:Hid (D=0∧E=⟨pe.has,pe.batch,z5y pe.rounds r n PV,pe.dec⟩):=F1.out.2 aa;subst aa;clear F1;have ae:=hP.below hB;obtain⟨c0,c1,c2,c3⟩:=ae.box;dsimp only at c0 c1 c2 c3
     go_wp2_with fail
     clear c0 c1 c2 c3;generalize (w2.alloc (.cells #[.int .i64 0,.int .i64 PV] 38))=Y at*;refine(T Y (aJ Y hB)).mono ?_;rintro e w3 ⟨q,rfl,eq,oq,nq,gq,ag⟩;have hY:=BI.lt;replace Rb:=Rb.below ag;replace BI:=BI.below ag;replace hB:=hB.trans (ag.mono hB.size);obtain⟨z,_,aH⟩:=Z q eq r hr;have av:=aO.out q eq r n PV z;have M:=instK.own_lt oq;obtain⟨qh,qb,s,qr,d,qd,x⟩:=q;obtain⟨s1,t1,rfl⟩:∃a c,qb=.slice a s.length c:=oq.1.shape;obtain⟨s2,t2,rfl⟩:∃a c,qr=.slice a d.length c:=oq.2.1.shape;obtain⟨s3,t3,rfl⟩:∃a c,qd=.slice a x.length c:=oq.2.2.shape;obtain⟨gr,rfl⟩:=oq.2.1.blkOf (by exact Nat.lt_of_le_of_lt (Nat.zero_le _) z);have J:Below w3.heap.size w3 (w3.alloc (.cells #[.bool qh,.slice s1 s.length t1,.slice (some ⟨gr,0,none⟩) d.length t2,.slice s3 x.length t3] 49)):=by go_grown
     have Gz:=Blk.new w3 49 #[.bool qh,.slice s1 s.length t1,.slice (some ⟨gr,0,none⟩) d.length t2,.slice s3 x.length t3];replace Rb:=Rb.below J;replace BI:=BI.below J;replace hB:=hB.trans (J.mono hB.size);replace oq:=instK.own_out (F:=[]) oq (Out.of_below J) (fun _ _=>by simp)
     go_wp2_with fail
     generalize w3.alloc (.cells #[.bool qh,.slice s1 s.length t1,.slice (some ⟨gr,0,none⟩) d.length t2,.slice s3 x.length t3] 49)=Y3 at*;replace z:r<d.length:=z;have a1:(r:Int)<d.length:=by omega
     obtain⟨g5,ai,au,aD,kc,kf,am,O⟩:=z62 oq nq r n z (by show n<(d[r]).pro.length;have:(d[r]).pro.length=3:=aH;omega) PV;have aU:(d[r]).pro.length=3:=aH;rw[show(InstQ.rounds (⟨qh,.slice s1 s.length t1,s,.slice (some ⟨gr,0,none⟩) d.length t2,d,.slice s3 x.length t3,x⟩:InstQ))[r]=d[r]from rfl,aU]at au;have aB:=oq.2.1.cell r z 1 (.slice (some ⟨g5,0,none⟩) 3 ai) (by show([(d[r]).vr,(d[r]).vp]:List Value)[1]?=_;rw[←au];rfl);have aj:Y3.cell? ⟨gr,r*2+1,none⟩=some (.slice (some ⟨g5,0,none⟩) 3 ai):=aB.1;have aE:gr≠g5:=by
      intro e;have aR:=(List.nodup_append.1 (List.nodup_append.1 nq).2.1).1;have hx:=(List.nodup_append.1 aR).2.2 gr (by simp[blk,Value.ownBlock]) g5 (List.mem_flatMap.2 ⟨d[r],List.getElem_mem z,List.mem_append_right _ (by rw[au,z1j];simp)⟩);exact hx e
     have aZ:Y.heap.size≤g5∧g5<w3.heap.size:=⟨gq g5 aD,M g5 aD⟩
     have X:Below Y3.heap.size Y3 Y3.drew:=(Below.refl _ _).drew;have z2:=z0g (F:=[g5]) (Gz.cell 2 _ rfl) (by simp only[List.mem_singleton];omega);have z1:=z0g (F:=[g5]) (BI.cell 1 _ rfl) (by simp only[List.mem_singleton];omega);have zr:=z0g (F:=[g5]) aj (by simp only[List.mem_singleton];exact aE);have aS:Nonempty (LatO [g5] Y3):=⟨⟨Y3,Out.refl _ _⟩⟩
     have aA:∃u:LatO [g5] Y3,Y3.drew=u.val:=⟨⟨_,Out.of_below X⟩,rfl⟩
     refine z0b (S:=fun w'=>∃u:LatO [g5] Y3,w'=u.val) (by kernel_rfl) ?_;refine sgr [(0,10)] 1 (by kernel_rfl) aA ?_;simp only[pkE];repeat go_big_quiet_step (fail)
     refine wpQuiet_nil ?_;refine ona 10 0 rfl (by kernel_rfl) ?_;clear z2 z1 zr aB aj aE;have aX:Y3.drew.cell? ⟨g5,n,none⟩=some _:=kc;have aY:Y3.drew.frozen? ⟨g5,n,none⟩=false:=kf;have aq:Out [g5] Y3 (Y3.drew.setCell ⟨g5,n,none⟩ (iv PV)):=(Out.of_below X).set (by simp);have az:Blk (Y3.drew.setCell ⟨g5,n,none⟩ (iv PV)) w3.heap.size 49 #[.bool qh,.slice s1 s.length t1,.slice (some ⟨gr,0,none⟩) d.length t2,.slice s3 x.length t3]:=(Gz.below X).other (b':=g5) (by omega) n (iv PV);have R3:=(Rb.below X).other (b':=g5) (by omega) n (iv PV);have ay:Below w.heap.size w (Y3.drew.setCell ⟨g5,n,none⟩ (iv PV)):=(hB.trans (X.mono hB.size)).setCell (p:=⟨g5,n,none⟩) (by show w.heap.size≤g5;omega) _;have an:instK.own (Y3.drew.setCell ⟨g5,n,none⟩ (iv PV)) (InstQ.setP (⟨qh,.slice s1 s.length t1,s,.slice (some ⟨gr,0,none⟩) d.length t2,d,.slice s3 x.length t3,x⟩:InstQ) r n PV z):=am;have L5:∀k∈instK.foot (InstQ.setP (⟨qh,.slice s1 s.length t1,s,.slice (some ⟨gr,0,none⟩) d.length t2,d,.slice s3 x.length t3,x⟩:InstQ) r n PV z),w.heap.size<k:=fun k hk=>by rw[O]at hk;have:=gq k hk;omega
     have N5:(instK.foot (InstQ.setP (⟨qh,.slice s1 s.length t1,s,.slice (some ⟨gr,0,none⟩) d.length t2,d,.slice s3 x.length t3,x⟩:InstQ) r n PV z)).Nodup:=by rw[O];exact nq
     have ak:∀cs,instK.own ((Y3.drew.setCell ⟨g5,n,none⟩ (iv PV)).setRow w.heap.size cs) (InstQ.setP (⟨qh,.slice s1 s.length t1,s,.slice (some ⟨gr,0,none⟩) d.length t2,d,.slice s3 x.length t3,x⟩:InstQ) r n PV z):=fun cs=>instK.own_out an (z0f _ w.heap.size cs) (fun k hk=>by have:=L5 k hk;simp only[List.mem_singleton];omega)
     have HQ:Hid ((InstQ.setP (⟨qh,.slice s1 s.length t1,s,.slice (some ⟨gr,0,none⟩) d.length t2,d,.slice s3 x.length t3,x⟩:InstQ) r n PV z).e=E∧(instK.foot (InstQ.setP (⟨qh,.slice s1 s.length t1,s,.slice (some ⟨gr,0,none⟩) d.length t2,d,.slice s3 x.length t3,x⟩:InstQ) r n PV z)).Nodup∧(∀k∈instK.foot (InstQ.setP (⟨qh,.slice s1 s.length t1,s,.slice (some ⟨gr,0,none⟩) d.length t2,d,.slice s3 x.length t3,x⟩:InstQ) r n PV z),w.heap.size≤k)∧∀cs,instK.own ((Y3.drew.setCell ⟨g5,n,none⟩ (iv PV)).setRow w.heap.size cs) (InstQ.setP (⟨qh,.slice s1 s.length t1,s,.slice (some ⟨gr,0,none⟩) d.length t2,d,.slice s3 x.length t3,x⟩:InstQ) r n PV z)):=⟨by rw[E1.out.2];exact av,N5,fun k hk=>by have:=L5 k hk;omega,ak⟩
     have aN:Hid (D=0):=E1.out.1;clear Gz Rb hB BI am an O L5 N5 ak av E1 oq nq gq eq ag T aA X M J;change Blk (Y3.setCell ⟨g5,n,none⟩ (iv PV)).drew _ _ _ at az;change Blk (Y3.setCell ⟨g5,n,none⟩ (iv PV)).drew _ _ _ at R3;change Below _ _ (Y3.setCell ⟨g5,n,none⟩ (iv PV)).drew at ay;change Out _ _ (Y3.setCell ⟨g5,n,none⟩ (iv PV)).drew at aq;change Hid (_∧_∧_∧∀cs,instK.own (((Y3.setCell ⟨g5,n,none⟩ (iv PV)).drew).setRow w.heap.size cs) _)at HQ
     go_wp2
     refine ThenGo.to ⟨⟨⟨_,aq⟩,rfl⟩,?_⟩;refine z0e (by kernel_rfl) ?_;clear kc kf aX aY aq aS;generalize (Y3.setCell ⟨g5,n,none⟩ (iv PV)).drew=X5 at*;have Rr:=R3.row #[.int .i64 0,.int .i64 0,.bool false,.bool false,.int .i64 0,.bool qh,.slice s1 s.length t1,.slice (some ⟨gr,0,none⟩) d.length t2,.slice s3 x.length t3];have I:=z0c ay (g:=w.heap.size) (Nat.le_refl _) #[.int .i64 0,.int .i64 0,.bool false,.bool false,.int .i64 0,.bool qh,.slice s1 s.length t1,.slice (some ⟨gr,0,none⟩) d.length t2,.slice s3 x.length t3];have N:(Tryz.prog.info? 83).map (·.size)=some (#[.int .i64 0,.int .i64 0,.bool false,.bool false,.int .i64 0,.bool qh,.slice s1 s.length t1,.slice (some ⟨gr,0,none⟩) d.length t2,.slice s3 x.length t3]:Array Value).size:=z0v;obtain⟨z0,z1,z2,z3⟩:=az.cel4
     go_wp2_with (first|(refine z0d (by kernel_rfl) 83 _ _ rfl _ #[.int .i64 0,.int .i64 0,.bool false,.bool false,.int .i64 0,.bool qh,.slice s1 s.length t1,.slice (some ⟨gr,0,none⟩) d.length t2,.slice s3 x.length t3] rfl rfl 83 _ R3 N rfl (by simp[Value.oneCell']) ?_))
     obtain⟨q0,q1,q2,q3,q4,q5,q6,q7,q8⟩:=Rr.cel9;exact bodyPost_ret (v:=.agg #[.int .i64 0,.int .i64 0,.bool false,.bool false,.int .i64 0,.bool qh,.slice s1 s.length t1,.slice (some ⟨gr,0,none⟩) d.length t2,.slice s3 x.length t3]) (by simp[results,Tryz.results115,go_sem,q0,q1,q2,q3,q4,q5,q6,q7,q8]) rfl ⟨InstQ.setP (⟨qh,.slice s1 s.length t1,s,.slice (some ⟨gr,0,none⟩) d.length t2,d,.slice s3 x.length t3,x⟩:InstQ) r n PV z,by rw[aN.out];rfl,HQ.out.1,HQ.out.2.2.2 _,HQ.out.2.1,HQ.out.2.2.1,I⟩
theorem Blk.outs{w w':World}{b:Nat}{t:TypeId}{cs:Array Value}{F:List Nat}(h:Blk w b t cs)(hU:Out F w w')(hF:b∉F):Blk w' b t cs:=(hU.block b h.lt hF).trans h
theorem z8n{P E:Type}(f:P→E)(nm:E→Nat)(ps:List P):nmL nm (ps.map f)=nmL (fun p=>nm (f p)) ps:=by
 simp[nmL,Function.comp_def]
theorem z0F(q:InstQ):q.n=InstE.n q.e:=by
 unfold InstQ.n InstE.n z6j z1H;rw[show q.e.batch=q.batch.map TxnQ.e from rfl,show q.e.rounds=q.rounds.map RoundQ.e from rfl,z8n,z8n,List.length_map,List.length_map];rfl
theorem z8o{P:Type}(nm:P→Nat)(ps:List P)(i:Nat)(p d:P)(h:nm p=nm (ps.getD i d)):nmL nm (ps.set i p)=nmL nm ps:=by
 induction ps generalizing i with
 |nil=>rfl
 |cons q t ih=>
  cases i with
  |zero=>
   have:nm p=nm q:=h;simp[nmL,this]
  |succ i=>
   have:=ih i (by simpa[List.getD]using h);simp only[nmL,List.set_cons_succ,List.map_cons,List.sum_cons]at this⊢;rw[this]
theorem q0X(rs:List RoundE)(r n:Nat)(v:Int):z1H (z5y rs r n v)=z1H rs:=by
 unfold z1H z5y;rw[List.length_set,z8o RoundE.n rs r _ rnd0 (by simp[RoundE.n])]
theorem q0Y(rs:List RoundE)(r n:Nat)(v:Int):z1H (z2Z rs r n v)=z1H rs:=by
 unfold z1H z2Z;rw[List.length_set,z8o RoundE.n rs r _ rnd0 (by simp[RoundE.n])]
def Opn(w:World):Prop:=∀j,j<3→w.cell? ⟨0,j,none⟩=some (.int .i64 3)
theorem Opn.below{w w':World}(h:Opn w)(hb:Below w.heap.size w w'):Opn w':=fun j hj=>z03 (h j hj) hb
structure RulO (w:World):Prop where
 r:Rul w
 o:Opn w
theorem RulO.below{w w':World}(h:RulO w)(hb:Below w.heap.size w w'):RulO w':=⟨h.r.below hb,h.o.below hb⟩
theorem Opn.range{w:World}(h:Opn w):w.rangeAt 0 0 [.int .i64 3,.int .i64 3,.int .i64 3]:=fun j v hv=>by
 rw[Nat.zero_add]
 match j,hv with
 |0,hv=>simp at hv;subst hv;exact h 0 (by omega)
 |1,hv=>simp at hv;subst hv;exact h 1 (by omega)
 |2,hv=>simp at hv;subst hv;exact h 2 (by omega)
theorem Opn.glob{w:World}(h:Opn w):0<w.heap.size:=World.block_lt_of_cell? w ⟨0,0,none⟩ (h 0 (by omega))
def z1Q:RoundE:=⟨[3,3,3],[3,3,3]⟩
def z4l(rs:List RoundE)(r:Nat):List RoundE:=if r=rs.length then rs++[z1Q]else rs
theorem z8p(rs:List RoundE)(r:Nat)(hr:r≤rs.length):r<(z4l rs r).length:=by
 unfold z4l;split
 ·simp;omega
 ·omega
theorem Opn.outs{w w':World}{F:List Nat}(h:Opn w)(hU:Out F w w')(hF:0∉F):Opn w':=fun j hj=>by
 have h0:=hU.block 0 h.glob hF;have h1:=h j hj;simp only[World.cell?]at h1⊢;rw[h0];exact h1
def frC(x:InstE)(node value:Int):Int:=if atC x node 0=0 then(if inB value 0 1 then(if repA x.rounds 0 node.toNat=3 then(if value=1∧x.has=false then 10 else 0)else 6)else 3)else atC x node 0
def frI(x:InstE)(node value:Int):InstE:=if frC x node value=0 then⟨x.has,x.batch,z2Z x.rounds 0 node.toNat value,x.dec⟩else z1L
theorem z5g(x:InstE)(q d:Int):(atC x q 0≠0→frC x q d=atC x q 0∧frI x q d=z1L)∧
  (atC x q 0=0→insF x=0∧∃ n:Nat,q=(n:Int)∧n < 3∧0 < x.rounds.length ∧
   (inB d 0 1=false→frC x q d=3∧frI x q d=z1L)∧
   (inB d 0 1=true→repA x.rounds 0 n≠3→frC x q d=6∧frI x q d=z1L)∧
   (inB d 0 1=true→repA x.rounds 0 n=3→d=1→x.has=false→frC x q d=10∧frI x q d=z1L)∧
   (inB d 0 1=true→repA x.rounds 0 n=3→¬ (d=1∧x.has=false)→frC x q d=0∧frI x q d=⟨x.has,x.batch,z2Z x.rounds 0 n d,x.dec⟩)):=by
 have s:∀c,frC x q d=c→c≠0→frI x q d=z1L:=fun c hc h0=>if_neg (by rw[hc];exact h0)
 refine⟨fun h0=>?_,fun h0=>?_⟩
 ·have e:frC x q d=atC x q 0:=if_neg h0;exact⟨e,s _ e h0⟩
 ·obtain⟨hi,n,r,rfl,y,hn,hr⟩:=z6x h0;refine⟨hi,n,rfl,hn,by omega,fun h1=>?_,fun h1 h2=>?_,fun h1 h2 h3 h4=>?_,fun h1 h2 h3=>?_⟩
  ·have e:frC x n d=3:=by unfold frC;rw[if_pos h0,h1];rfl
   exact⟨e,s _ e (by decide)⟩
  ·have e:frC x n d=6:=by unfold frC;rw[if_pos h0,h1,if_pos rfl,Int.toNat_natCast,if_neg h2]
   exact⟨e,s _ e (by decide)⟩
  ·have e:frC x n d=10:=by unfold frC;rw[if_pos h0,h1,if_pos rfl,Int.toNat_natCast,if_pos h2,if_pos ⟨h3,h4⟩]
   exact⟨e,s _ e (by decide)⟩
  ·have e:frC x n d=0:=by unfold frC;rw[if_pos h0,h1,if_pos rfl,Int.toNat_natCast,if_pos h2,if_neg h3]
   exact⟨e,by unfold frI;rw[if_pos e,Int.toNat_natCast]⟩
end Go.Proofs.YtciofogeiohleaaGreatDoor

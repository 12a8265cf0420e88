import Derived.Test.YtjjoahhnkpjolaaGreatDoorONAP
set_option linter.unusedVariables false
set_option linter.unusedSimpArgs false
set_option maxRecDepth 100000
set_option maxHeartbeats 8000000
namespace Go.Proofs.YtjjoahhnkpjolaaGreatDoor
open Go.RowKit Go.BigFrame
open RoundQ renaming e->Q
open List renaming mem_append_right->H,mem_append_left->P,mem_singleton->l
open Act renaming put->o
open Value renaming slice->G
open Go.Proofs.Tryz
theorem q6c:(Tryz.prog.info? 111).map (·.size)=some 9:=by kernel_rfl
theorem q33(i s q:Int):txnF i s q []≠0:=by
 unfold txnF;split<;>simp
theorem q5n{bt:List TxnQ}(h:batF (bt.map TxnQ.e)=0):∀p∈bt,0<p.acts.length:=by
 intro p hp;have ha:allF (bt.map TxnQ.e)=0:=by
  unfold batF at h;split at h
  ·omega
  ·split at h
   ·assumption
   ·exact h
 have hz:∀ (ds:List TxnD),allF ds=0→∀d∈ds,d.F=0:=by
  intro ds;induction ds with
  |nil=>intro _ d hd;simp at hd
  |cons x r ih=>
   intro h d hd;simp only[allF]at h;by_cases hx:x.F=0
   ·rw[if_pos hx]at h;rcases List.mem_cons.1 hd with rfl|hd
    ·exact hx
    ·exact ih h d hd
   ·rw[if_neg hx]at h;exact absurd h hx
 have hf:=hz _ ha p.e (List.mem_map.2 ⟨p,hp,rfl⟩);show 0<p.acts.length;have hf':txnF p.i p.s p.q p.acts=0:=hf;rcases Nat.eq_zero_or_pos p.acts.length with h0|h0
 ·exfalso
  have:p.acts=[]:=List.eq_nil_of_length_eq_zero h0;rw[this]at hf';exact q33 _ _ _ hf'
 ·exact h0
theorem q1b(p:InstQ)(w:World)(h:instK.rd w p)(hl:p.n≤1048576)(aN:∀t∈p.batch,0<t.acts.length)(aQ:∀r∈p.rounds,0<r.rep.length∧0<r.pro.length)(aJ:0<p.dec.length):
  Calls Tryz.prog 142 #[.agg #[.bool p.has,p.vb,p.vr,p.vd]] w fun e w'=>∃q:InstQ,e=.returned (.agg #[.bool q.has,q.vb,q.vr,q.vd])∧q.e=p.e∧instK.own w' q∧(instK.foot q).Nodup∧(∀k∈instK.foot q,w.heap.size≤k)∧Below w.heap.size w w':=by
 obtain⟨has,vb,d,vr,c,vd,dec⟩:=p;obtain⟨h1,h2,h3⟩:txnK.At w vb d∧roundK.At w vr c∧intK.At w vd dec:=h;obtain⟨ba,bk,rfl⟩:=h1.shape;obtain⟨va,vk,rfl⟩:=h2.shape;obtain⟨da,dk,rfl⟩:=h3.shape;dsimp only[InstQ.n]at hl aN aQ aJ;have ak:=fun w (hT:txnK.At w (G ba d.length bk) d)=>z2o _ d w hT aN (by omega)
 have aa:=fun w (hT:intK.At w (G da dec.length dk) dec)=>z4q _ dec w hT aJ (by omega)
 have hB:Below w.heap.size w ((w.alloc (.cells #[.bool has,G ba d.length bk,G va c.length vk,G da dec.length dk] 89)).alloc (.cells #[.bool false,G none 0 0,G none 0 0,G none 0 0] 89)):=by go_grown
 have Bx:=Blk.new w 89 #[.bool has,G ba d.length bk,G va c.length vk,G da dec.length dk];have aG:Below (w.alloc (.cells #[.bool has,G ba d.length bk,G va c.length vk,G da dec.length dk] 89)).heap.size (w.alloc (.cells #[.bool has,G ba d.length bk,G va c.length vk,G da dec.length dk] 89)) ((w.alloc (.cells #[.bool has,G ba d.length bk,G va c.length vk,G da dec.length dk] 89)).alloc (.cells #[.bool false,G none 0 0,G none 0 0,G none 0 0] 89)):=by go_grown
 have Rb:=Blk.new (w.alloc (.cells #[.bool has,G ba d.length bk,G va c.length vk,G da dec.length dk] 89)) 89 #[.bool false,G none 0 0,G none 0 0,G none 0 0];rw[World.size_alloc]at Rb;replace Bx:=Bx.below aG;clear aG;have br:w.heap.size+2≤((w.alloc (.cells #[.bool has,G ba d.length bk,G va c.length vk,G da dec.length dk] 89)).alloc (.cells #[.bool false,G none 0 0,G none 0 0,G none 0 0] 89)).heap.size:=by simp
 go_enter func142,ntmps142
 go_wp2_with fail
 generalize ((w.alloc (.cells #[.bool has,G ba d.length bk,G va c.length vk,G da dec.length dk] 89)).alloc (.cells #[.bool false,G none 0 0,G none 0 0,G none 0 0] 89))=W at*;refine z1k [some 5,some 6,some 7,some 8,some 9,some 10,some 11,some 12,some 13,some 3] (fun vs w'=>∃ (s1:Option Addr) (t1:Nat) (q1:List TxnQ) (a3:Option Addr) (c3 g:Nat),vs=[.pointer (some ⟨w.heap.size,0,none⟩),.bool has,.pointer (some ⟨w.heap.size,1,none⟩),G ba d.length bk,G s1 q1.length t1,.pointer (some ⟨w.heap.size,3,none⟩),G da dec.length dk,G a3 dec.length c3,.agg #[.bool has,G s1 q1.length t1,G none 0 0,G a3 dec.length c3],.pointer (some ⟨g,0,none⟩)]∧W.heap.size≤g∧Blk w' g 89 #[.bool has,G s1 q1.length t1,G none 0 0,G a3 dec.length c3]∧q1.map TxnQ.e=d.map TxnQ.e∧txnK.Own w' (G s1 q1.length t1) q1∧(txnK.fp (G s1 q1.length t1) q1).Nodup∧(∀k∈txnK.fp (G s1 q1.length t1) q1,W.heap.size≤k)∧(∀k∈txnK.fp (G s1 q1.length t1) q1,k≠g)∧intK.Own w' (G a3 dec.length c3) dec∧(∀k∈intK.fp (G a3 dec.length c3) dec,W.heap.size≤k)∧(∀k∈intK.fp (G a3 dec.length c3) dec,k≠g)∧(∀x∈txnK.fp (G s1 q1.length t1) q1,∀y∈intK.fp (G a3 dec.length c3) dec,x≠y)∧Below W.heap.size W w') ?_ ?_
 ·have hW:Below W.heap.size W W.drew:=(Below.refl _ _).drew;have aP:Nonempty (Lat W):=⟨⟨W,Below.refl _ _⟩⟩
  obtain⟨p0,p1⟩:=Bx.lts2;have p3:=Bx.lat 3 _ rfl;refine z0d (S:=fun w'=>∃u:Lat W,w'=u.val) (by kernel_rfl) ?_;refine sgr [(0,4),(5,2)] 5 (by kernel_rfl) ⟨⟨_,hW⟩,rfl⟩ ?_;simp only[pkE];repeat go_big_quiet_step (fail)
  refine wpQuiet_nil ?_;clear p0 p1 p3;generalize W.drew=wd at hW⊢;refine twa 4 9 4 (by kernel_rfl) ?_ ?_
  focus
   skip;refine opc 4 (some 9) 116 #[G ba d.length bk] (by kernel_rfl) ?_;refine(ak _ (h1.below (hB.trans (hW.mono hB.size)))).mono ?_;rintro e x0 ⟨v1,q1,rfl,e1,o1,n1,g1,hb⟩;obtain⟨s1,t1,rfl⟩:=o1.shape;have L1:∀k∈txnK.fp (G s1 q1.length t1) q1,W.heap.size≤k:=fun k hk=>by have:=g1 k hk;have:=hW.size;omega
   clear g1;replace hW:=hW.trans (hb.mono hW.size);clear hb;refine⟨_,rfl,⟨⟨_,hW⟩,rfl⟩,?_⟩;simp only[o,pgE,pjE];refine twa 7 9 3 (by kernel_rfl) ?_ ?_
   focus
    skip;refine opc 7 (some 12) 190 #[G da dec.length dk] (by kernel_rfl) ?_;refine(aa _ (h3.below (hB.trans (hW.mono hB.size)))).mono ?_;rintro e x1 ⟨a3,c3,rfl,o3,g3,hb⟩;have L3:∀k∈intK.fp (G a3 dec.length c3) dec,W.heap.size≤k:=fun k hk=>by have:=g3 k hk;have:=hW.size;omega
    have C:∀x∈txnK.fp (G s1 q1.length t1) q1,∀y∈intK.fp (G a3 dec.length c3) dec,x≠y:=fun x hx y hy e=>by have:=o1.lt x hx;have:=g3 y hy;omega
    replace o1:=o1.below hb;clear g3;replace hW:=hW.trans (hb.mono hW.size);clear hb;refine⟨_,rfl,⟨⟨_,hW⟩,rfl⟩,?_⟩;simp only[o,pgE,pjE];refine qta 8 (some 13) (.agg #[.bool has,G s1 q1.length t1,G none 0 0,G a3 dec.length c3]) 2 (by kernel_rfl) (fun u _=>by kernel_rfl) ⟨⟨_,hW⟩,rfl⟩ ?_;simp only[o,pgE,pjE];refine ona 9 1 rfl (by kernel_rfl) ?_;have Bz:=Blk.new x1 89 #[.bool false,G none 0 0,G none 0 0,G none 0 0];have aR:W.heap.size≤x1.heap.size:=hW.size;have N1:∀k∈txnK.fp (G s1 q1.length t1) q1,k≠x1.heap.size:=fun k hk e=>by have:=o1.lt k hk;omega
    have N3:∀k∈intK.fp (G a3 dec.length c3) dec,k≠x1.heap.size:=fun k hk e=>by have:=o3.lt k hk;omega
    have A:Below x1.heap.size x1 (x1.alloc (.cells #[.bool false,G none 0 0,G none 0 0,G none 0 0] 89)):=by go_grown
    replace o1:=o1.below A;replace o3:=o3.below A;replace hW:=hW.trans (A.mono hW.size);clear A
    go_wp2
    refine ThenGo.to ⟨⟨⟨_,hW⟩,rfl⟩,?_⟩;generalize a2:x1.heap.size=g at*;clear a2;generalize x1.alloc (.cells #[.bool false,G none 0 0,G none 0 0,G none 0 0] 89)=Y2 at*;refine ona 10 0 rfl (by kernel_rfl) ?_;have z:=z0x Y2 g #[.bool has,G s1 q1.length t1,G none 0 0,G a3 dec.length c3]
   rotate_left
   focus
    skip;refine z1P 9 _ rfl ?_;have Bz:=Blk.new x0 89 #[.bool false,G none 0 0,G none 0 0,G none 0 0];have aR:W.heap.size≤x0.heap.size:=hW.size;have N1:∀k∈txnK.fp (G s1 q1.length t1) q1,k≠x0.heap.size:=fun k hk e=>by have:=o1.lt k hk;omega
    have A:Below x0.heap.size x0 (x0.alloc (.cells #[.bool false,G none 0 0,G none 0 0,G none 0 0] 89)):=by go_grown
    replace o1:=o1.below A;replace hW:=hW.trans (A.mono hW.size);clear A
    go_wp2
    refine ThenGo.to ⟨⟨⟨_,hW⟩,rfl⟩,?_⟩;generalize a1:x0.heap.size=g at*;clear a1;generalize x0.alloc (.cells #[.bool false,G none 0 0,G none 0 0,G none 0 0] 89)=Y1 at*;refine cla 7 (some 12) 190 #[G da dec.length dk] 2 (by kernel_rfl) ?_;refine(aa _ (h3.below (hB.trans (hW.mono hB.size)))).mono ?_;rintro e x2 ⟨a3,c3,rfl,o3,g3,hb⟩;have L3:∀k∈intK.fp (G a3 dec.length c3) dec,W.heap.size≤k:=fun k hk=>by have:=g3 k hk;have:=hW.size;omega
    have C:∀x∈txnK.fp (G s1 q1.length t1) q1,∀y∈intK.fp (G a3 dec.length c3) dec,x≠y:=fun x hx y hy e=>by have:=o1.lt x hx;have:=g3 y hy;omega
    have N3:∀k∈intK.fp (G a3 dec.length c3) dec,k≠g:=fun k hk e=>by have:=g3 k hk;have:=Bz.lt;omega
    replace Bz:=Bz.below hb;replace o1:=o1.below hb;clear g3;replace hW:=hW.trans (hb.mono hW.size);clear hb;refine⟨_,rfl,⟨⟨_,hW⟩,rfl⟩,?_⟩;simp only[o,pgE,pjE];refine qta 8 (some 13) (.agg #[.bool has,G s1 q1.length t1,G none 0 0,G a3 dec.length c3]) 1 (by kernel_rfl) (fun u _=>by kernel_rfl) ⟨⟨_,hW⟩,rfl⟩ ?_;simp only[o,pgE,pjE];refine ona 10 0 rfl (by kernel_rfl) ?_;have z:=z0x x2 g #[.bool has,G s1 q1.length t1,G none 0 0,G a3 dec.length c3]
   rotate_left
  rotate_left 2
  focus
   skip;refine z1P 9 _ rfl ?_;have Bz:=Blk.new wd 89 #[.bool false,G none 0 0,G none 0 0,G none 0 0];have aR:W.heap.size≤wd.heap.size:=hW.size;have A:Below wd.heap.size wd (wd.alloc (.cells #[.bool false,G none 0 0,G none 0 0,G none 0 0] 89)):=by go_grown
   replace hW:=hW.trans (A.mono hW.size);clear A
   go_wp2
   refine ThenGo.to ⟨⟨⟨_,hW⟩,rfl⟩,?_⟩;generalize aZ:wd.heap.size=g at*;clear aZ;generalize wd.alloc (.cells #[.bool false,G none 0 0,G none 0 0,G none 0 0] 89)=Y0 at*;refine cla 4 (some 9) 116 #[G ba d.length bk] 3 (by kernel_rfl) ?_;refine(ak _ (h1.below (hB.trans (hW.mono hB.size)))).mono ?_;rintro e x1 ⟨v1,q1,rfl,e1,o1,n1,g1,hb⟩;obtain⟨s1,t1,rfl⟩:=o1.shape;have L1:∀k∈txnK.fp (G s1 q1.length t1) q1,W.heap.size≤k:=fun k hk=>by have:=g1 k hk;have:=hW.size;omega
   have N1:∀k∈txnK.fp (G s1 q1.length t1) q1,k≠g:=fun k hk e=>by have:=g1 k hk;have:=Bz.lt;omega
   replace Bz:=Bz.below hb;clear g1;replace hW:=hW.trans (hb.mono hW.size);clear hb;refine⟨_,rfl,⟨⟨_,hW⟩,rfl⟩,?_⟩;simp only[o,pgE,pjE];refine cla 7 (some 12) 190 #[G da dec.length dk] 2 (by kernel_rfl) ?_;refine(aa _ (h3.below (hB.trans (hW.mono hB.size)))).mono ?_;rintro e x2 ⟨a3,c3,rfl,o3,g3,hb⟩;have L3:∀k∈intK.fp (G a3 dec.length c3) dec,W.heap.size≤k:=fun k hk=>by have:=g3 k hk;have:=hW.size;omega
   have C:∀x∈txnK.fp (G s1 q1.length t1) q1,∀y∈intK.fp (G a3 dec.length c3) dec,x≠y:=fun x hx y hy e=>by have:=o1.lt x hx;have:=g3 y hy;omega
   have N3:∀k∈intK.fp (G a3 dec.length c3) dec,k≠g:=fun k hk e=>by have:=g3 k hk;have:=Bz.lt;omega
   replace Bz:=Bz.below hb;replace o1:=o1.below hb;clear g3;replace hW:=hW.trans (hb.mono hW.size);clear hb;refine⟨_,rfl,⟨⟨_,hW⟩,rfl⟩,?_⟩;simp only[o,pgE,pjE];refine qta 8 (some 13) (.agg #[.bool has,G s1 q1.length t1,G none 0 0,G a3 dec.length c3]) 1 (by kernel_rfl) (fun u _=>by kernel_rfl) ⟨⟨_,hW⟩,rfl⟩ ?_;simp only[o,pgE,pjE];refine ona 10 0 rfl (by kernel_rfl) ?_;have z:=z0x x2 g #[.bool has,G s1 q1.length t1,G none 0 0,G a3 dec.length c3]
  rotate_left
  all_goals
   have aK:W.heap.size≤g:=by omega
   have Rz:=Bz.row #[.bool has,G s1 q1.length t1,G none 0 0,G a3 dec.length c3];replace hW:=z0o hW aK #[.bool has,G s1 q1.length t1,G none 0 0,G a3 dec.length c3];replace o1:=o1.out z (fun k hk=>by simp only[l];exact N1 k hk);replace o3:=o3.out z (fun k hk=>by simp only[l];exact N3 k hk);refine z0A (by kernel_rfl) 89 _ _ rfl _ #[.bool has,G s1 q1.length t1,G none 0 0,G a3 dec.length c3] rfl rfl 89 _ Bz z5C rfl (by simp[Value.oneCell']) ?_;refine ThenGo.to ⟨⟨⟨_,hW⟩,rfl⟩,?_⟩;refine z0h (by kernel_rfl) ?_;refine⟨rfl,_,⟨s1,t1,q1,a3,c3,g,rfl,aK,Rz,e1,o1,n1,L1,N1,o3,L3,N3,C,hW⟩,?_⟩;simp only[z1Q,o,pgE,pjE];try rfl
 rintro vs X ⟨s1,t1,q1,a3,c3,g,rfl,hg,Bg,e1,o1,n1,L1,N1,o3,L3,N3,C,hX⟩;simp only[z1Q,o,pjE];have az:Below w.heap.size w X:=hB.trans (hX.mono hB.size);have ax:=Rb.below hX;have ao:=Bx.below hX;have bm:=h2;have bp:=Bg.lt;have bn:=hX.size;obtain⟨i0,hi,be,bf,bg⟩:=info_parts z3P;obtain⟨aL,aM⟩:=Kind.own_nil (K:=roundK) X;have aq:Hid ((roundK.fp (G none 0 0) ([]:List RoundQ)).Nodup∧∀k∈roundK.fp (G none 0 0) ([]:List RoundQ),X.heap.size≤k):=by
  rw[aM];exact⟨by simp,by simp⟩
 have av:Hid (q1.map TxnQ.e=d.map TxnQ.e∧txnK.Own X (G s1 q1.length t1) q1∧(txnK.fp (G s1 q1.length t1) q1).Nodup∧(∀k∈txnK.fp (G s1 q1.length t1) q1,W.heap.size≤k)∧(∀k∈txnK.fp (G s1 q1.length t1) q1,k≠g)∧intK.Own X (G a3 dec.length c3) dec∧(∀k∈intK.fp (G a3 dec.length c3) dec,W.heap.size≤k)∧(∀k∈intK.fp (G a3 dec.length c3) dec,k≠g)∧(∀x∈txnK.fp (G s1 q1.length t1) q1,∀y∈intK.fp (G a3 dec.length c3) dec,x≠y)):=⟨e1,o1,n1,L1,N1,o3,L3,N3,C⟩
 clear aM ak aa Rb Bx hB hX e1 o1 n1 L1 N1 o3 L3 N3 C h1 h3
 go_wp2
 go_loopw[4] (fun j wr=>∃ (k:Nat) (v2:Value) (qs:List RoundQ),k≤c.length∧j=.int .i64 k∧Hid (qs.map Q=(c.take k).map Q)∧roundK.Own wr v2 qs∧Hid ((roundK.fp v2 qs).Nodup∧∀k∈roundK.fp v2 qs,X.heap.size≤k)∧Hid (Blk wr g 89 #[.bool has,G s1 q1.length t1,v2,G a3 dec.length c3])∧Hid (Out [g] X wr)) (fun j _=>c.length-(intOf j).toNat)
 case atStart=>exact⟨0,G none 0 0,[],Nat.zero_le _,rfl,(rfl:_=_),aL,aq,Bg,Out.refl _ _⟩
 case round=>
  clear aq aL Bg;obtain⟨k,v2,qs,hk,rfl,HE,hO,HN,E,HO⟩:=hrel;obtain⟨sa,sc,rfl⟩:=hO.shape;have aA:Below w.heap.size w wr:=Out.keep az HO.out az.size (fun x hx=>by simp only[l]at hx;omega);have a7:=HO.out.size;have aU:Blk wr w.heap.size 89 #[.bool has,G ba d.length bk,G va c.length vk,G da dec.length dk]:=(HO.out.block _ ao.lt (by simp only[l];omega)).trans ao;have J:Hid (∀x∈blk (G sa qs.length sc),X.heap.size≤x):=fun x hx=>HN.out.2 x (by simp only[Kind.fp,List.mem_append];exact Or.inl hx)
  have b2:=aU.cell 2 _ rfl;by_cases N:k<c.length
  ·obtain⟨rb,ro,rfl,bo,hc,bc⟩:=(h2.below aA).cell (by decide) k N;have bl:rb<w.heap.size:=by
    obtain⟨bs,bt,e',bi,_,_⟩:=h2.cell (by decide) k N;simp only[Option.some.injEq,Addr.mk.injEq,and_true]at e';omega
   have aj:∀j x,(roundK.cells c[k])[j]?=some x→wr.cell? ⟨rb,ro+k*2+j,none⟩=some x:=hc;have f0:=aj 0 (c[k].vr) rfl;have f1:=aj 1 (c[k].vp) rfl;have n1:=z01 RoundQ.n c k N;have O:=aQ _ (List.getElem_mem N);have aw:Hid (qs.length≤1048576):=by
    have:=congrArg List.length HE.out;rw[List.length_map,List.length_map,List.length_take]at this;show qs.length≤1048576;omega
   have au:Hid (∀p':RoundQ,p'.e=Q c[k]→(qs++[p']).map Q=(c.take (k+1)).map Q):=fun p' bb=>by
    rw[List.take_succ_eq_append_getElem N,List.map_append,List.map_append,HE.out,List.map_singleton,List.map_singleton,bb]
   clear HE hc aj;generalize c[k]=p at*;obtain⟨pv,pr,pw,pp⟩:=p;obtain⟨u1,u2⟩:intK.At wr pv pr∧intK.At wr pw pp:=bc;obtain⟨aS,j1,rfl⟩:=u1.shape;obtain⟨aT,j2,rfl⟩:=u2.shape;dsimp only[RoundQ.n]at f0 f1 n1 O;rw[Nat.add_zero]at f0;have aH:=fun w (hT:intK.At w (G aS pr.length j1) pr)=>z4q _ pr w hT O.1 (by omega)
   have aI:=fun w (hT:intK.At w (G aT pp.length j2) pp)=>z4q _ pp w hT O.2 (by omega)
   have af:g∉blk (G sa qs.length sc):=fun hx=>by have:=J.out g hx;omega
   have aB:w.heap.size∉blk (G sa qs.length sc):=fun hx=>by have:=J.out _ hx;omega
   have ag:rb∉blk (G sa qs.length sc):=fun hx=>by have:=J.out rb hx;omega
   have HF:Hid (∀x∈roundK.fp (G sa qs.length sc) qs,x<wr.heap.size):=hO.lt;have m0:=z0l (F:=blk (G sa qs.length sc)) (E.out.cell 2 _ rfl) af;have m1:=z0l (F:=blk (G sa qs.length sc)) b2 aB;have m2:=z0l (F:=blk (G sa qs.length sc)) f0 ag;have m3:=z0l (F:=blk (G sa qs.length sc)) f1 ag;have bj:(k:Int)<(c.length:Int):=by omega
   have aP:Nonempty (LatO (blk (G sa qs.length sc)) wr):=⟨⟨wr,Out.refl _ _⟩⟩
   have hW:Below wr.heap.size wr wr.drew:=(Below.refl _ _).drew;have I:∀w',Below wr.heap.size wr w'→∃u:LatO (blk (G sa qs.length sc)) wr,w'=u.val:=fun w' bd=>⟨⟨w',Out.of_below bd⟩,rfl⟩
   clear f0 f1
   go_wp2_with fail
   clear b2;refine z3X (S:=fun w'=>∃u:LatO (blk (G sa qs.length sc)) wr,w'=u.val) (R:=fun _ _=>False) 20 (by kernel_rfl) (fun _ _ _ _ h=>h.elim) ?_;refine sgX [(0,8),(9,6)] 7 (by kernel_rfl) (I _ hW) ?_;simp only[pkE];repeat go_big_quiet_step (fail)
   refine wpQuiet_nil ?_;refine clX 8 (some 29) 190 #[G aS pr.length j1] 6 (by kernel_rfl) rfl ?_;refine(aH _ (u1.below hW)).mono ?_;rintro e w8 ⟨x1,y1,rfl,oa,ga,aF⟩;have LA:∀x∈intK.fp (G x1 pr.length y1) pr,wr.heap.size≤x:=fun x hx=>by have:=ga x hx;have:=hW.size;omega
   have MA:=oa.lt;replace hW:=hW.trans (aF.mono hW.size);clear aF ga;refine Or.inl ⟨_,rfl,I _ hW,?_⟩;simp only[o,pgE,pjE];refine clX 15 (some 36) 190 #[G aT pp.length j2] 5 (by kernel_rfl) rfl ?_;refine(aI _ (u2.below hW)).mono ?_;rintro e w9 ⟨x2,y2,rfl,ob,gb,ai⟩;have LB:∀x∈intK.fp (G x2 pp.length y2) pp,wr.heap.size≤x:=fun x hx=>by have:=gb x hx;have:=hW.size;omega
   have ab:∀x∈intK.fp (G x1 pr.length y1) pr,∀y∈intK.fp (G x2 pp.length y2) pp,x≠y:=fun x hx y hy e=>by have:=MA x hx;have:=gb y hy;omega
   replace oa:=oa.below ai;replace hW:=hW.trans (ai.mono hW.size);clear ai gb MA;refine Or.inl ⟨_,rfl,I _ hW,?_⟩;simp only[o,pgE,pjE];refine onX 16 4 rfl (by kernel_rfl) ?_
   go_wp2
   refine ThenX.to ⟨Or.inr (I _ hW),?_⟩;refine onX 17 3 rfl (by kernel_rfl) ?_;have Y:Below w9.heap.size w9 (w9.alloc (.cells #[G x1 pr.length y1,G x2 pp.length y2] 171)):=by go_grown
   replace hW:=hW.trans (Y.mono hW.size);replace oa:=oa.below Y;replace ob:=ob.below Y;have ae:∀j u,[Value.slice x1 pr.length y1,G x2 pp.length y2][j]?=some u→(w9.alloc (.cells #[G x1 pr.length y1,G x2 pp.length y2] 171)).cell? ((⟨w9.heap.size,0,none⟩:Addr).add j)=some u:=by
    intro j u hj;match j,hj with|0,hj=>simp at hj;subst hj;simp[Addr.add]|1,hj=>simp at hj;subst hj;simp[Addr.add]
   go_wp2
   refine ThenX.to ⟨Or.inr (I _ hW),?_⟩;generalize w9.alloc (.cells #[G x1 pr.length y1,G x2 pp.length y2] 171)=Z at*;clear Y;have ah:=hO.below hW;have T:=ah.1;have bq:=hW.size;refine onX 18 2 rfl (by kernel_rfl) ?_;refine wpList_append_own_at _ rfl _ _ 87 rfl 0 171 i0 (.agg #[G none 0 0,G none 0 0]) 2 48 Tryz.underlying87 hi be bf bg rfl (by decide) _ qs.length (roundK.row qs) rfl T ⟨w9.heap.size,0,none⟩ 1 1 [G x1 pr.length y1,G x2 pp.length y2] rfl rfl ae ?c2 ?c3 ?c4 ?c5 ?_
   case c2=>intro u hu;simp at hu;rcases hu with rfl|rfl<;>rfl
   case c3=>have:=aw.out;unfold maxLen;omega
   case c4=>have:=aw.out;omega
   case c5=>omega
   intro v' w5 ad L aO aE;clear aO T ae;obtain ⟨V,al,M,z⟩:=ah.snoc (p:=⟨G x1 pr.length y1,pr,G x2 pp.length y2,pp⟩) (B:=X.heap.size) HN.out.1 HN.out.2 ⟨oa,ob⟩ (List.nodup_append.2 ⟨z0L _ _,z0L _ _,ab⟩) (fun x hx am => by
    have:=HF.out x am;rcases List.mem_append.1 hx with hx|hx
    ·have:=LA x hx;omega
    ·have:=LB x hx;omega) (fun x hx=>by
    rcases List.mem_append.1 hx with hx|hx
    ·have:=LA x hx;omega
    ·have:=LB x hx;omega) (by omega) ad L aE
   obtain⟨na,nc,rfl⟩:=V.shape;rw[List.length_append,List.length_singleton]at V al M;have D:Out (blk (G sa qs.length sc)) wr w5:=(Out.of_below hW).trans z;have U:Blk w5 g 89 #[.bool has,G s1 q1.length t1,G sa qs.length sc,G a3 dec.length c3]:=(D.block g (by omega) af).trans E.out;have aW:Hid ((qs++[(⟨G x1 pr.length y1,pr,G x2 pp.length y2,pp⟩:RoundQ)]).map Q=(c.take (k+1)).map Q):=au.out _ rfl;have ar:Hid ((roundK.fp (G na (qs.length+1) nc) (qs++[(⟨G x1 pr.length y1,pr,G x2 pp.length y2,pp⟩:RoundQ)])).Nodup∧∀k∈roundK.fp (G na (qs.length+1) nc) (qs++[(⟨G x1 pr.length y1,pr,G x2 pp.length y2,pp⟩:RoundQ)]),X.heap.size≤k):=⟨al,M⟩
   have aC:Out [g] X w5:=by
    refine⟨D.os.trans HO.out.os,D.tape.trans HO.out.tape,D.output.trans HO.out.output,Nat.le_trans a7 D.size,fun x hx hn=>?_⟩;exact(D.block x (by omega) (fun am=>by have:=J.out x am;omega)).trans (HO.out.block x hx hn)
   clear al M z au HN HF oa ob LA LB ab ad L aE ah hO m0 m1 m2 m3 aH aI
   go_wp2
   refine ThenX.to ⟨Or.inr ⟨⟨_,D⟩,rfl⟩,?_⟩;simp only[o,pgE,pjE];refine onX 19 1 rfl (by kernel_rfl) ?_
   go_wp2
   refine ThenX.to ⟨Or.inr ⟨⟨_,D⟩,rfl⟩,?_⟩;refine onX 20 0 rfl (by kernel_rfl) ?_;have t3:=U.cell 2 _ rfl;have t4:=U.frozen 2;have an:=U.set 2 (G na (qs.length+1) nc);have a6:=V.out (Out.setCell w5 g 2 (G na (qs.length+1) nc)) (fun x hx=>by have:=ar.out.2 x hx;simp only[l];omega);have aD:Out [g] X (w5.setCell ⟨g,2,none⟩ (G na (qs.length+1) nc)):=aC.trans (Out.setCell w5 g 2 _);have aV:Hid (Blk (w5.setCell ⟨g,2,none⟩ (G na (qs.length+1) nc)) g 89 #[.bool has,G s1 q1.length t1,G na (qs.length+1) nc,G a3 dec.length c3]):=an;have aX:Hid (Out [g] X (w5.setCell ⟨g,2,none⟩ (G na (qs.length+1) nc))):=aD;clear an aD aC V U E HO;generalize qs++[(⟨G x1 pr.length y1,pr,G x2 pp.length y2,pp⟩:RoundQ)]=bh at*
   go_wp2
   refine ThenX.to ⟨Or.inl (by kernel_rfl),?_⟩;refine q31 (by kernel_rfl) ?_;clear t3 t4 D aP I af aB ag;generalize w5.setCell ⟨g,2,none⟩ (G na (qs.length+1) nc)=w6 at*
   go_wp2
   go_roundw
   case rel=>exact⟨k+1,_,bh,by omega,by go_num,aW,a6,ar,aV,aX⟩
   case measure=>simp[intOf];omega
  ·have a8:k=c.length:=by omega
   subst a8;have hE:=HE.out;rw[List.take_length]at hE;have ap:Hid (qs.map Q=c.map Q):=hE;clear HE hE;have ay:Blk wr (w.heap.size+1) 89 #[.bool false,G none 0 0,G none 0 0,G none 0 0]:=(HO.out.block _ ax.lt (by simp only[l];omega)).trans ax;have g0:=E.out.cell 0 _ rfl;have g1:=E.out.cell 1 _ rfl;have g2:=E.out.cell 2 _ rfl;have g3:=E.out.cell 3 _ rfl;have Rz:=ay.row #[.bool has,G s1 q1.length t1,G sa qs.length sc,G a3 dec.length c3];have z:=z0x wr (w.heap.size+1) #[.bool has,G s1 q1.length t1,G sa qs.length sc,G a3 dec.length c3];have aY:=z0o aA (g:=w.heap.size+1) (by omega) #[.bool has,G s1 q1.length t1,G sa qs.length sc,G a3 dec.length c3];obtain⟨e1,o1,n1,L1,N1,o3,L3,N3,C⟩:=av.out;have oa:=(o1.out HO.out (fun x hx=>by simp only[l];exact N1 x hx)).out z (fun x hx=>by have:=L1 x hx;simp only[l];omega);have oc:=(o3.out HO.out (fun x hx=>by simp only[l];exact N3 x hx)).out z (fun x hx=>by have:=L3 x hx;simp only[l];omega);have ob:=hO.out z (fun x hx=>by have:=HN.out.2 x hx;simp only[l];omega);have HR:Hid ((InstQ.e ⟨has,G s1 q1.length t1,q1,G sa qs.length sc,qs,G a3 dec.length c3,dec⟩=InstQ.e ⟨has,G ba d.length bk,d,G va c.length vk,c,G da dec.length dk,dec⟩)∧(instK.foot ⟨has,G s1 q1.length t1,q1,G sa qs.length sc,qs,G a3 dec.length c3,dec⟩).Nodup∧∀x∈instK.foot ⟨has,G s1 q1.length t1,q1,G sa qs.length sc,qs,G a3 dec.length c3,dec⟩,w.heap.size≤x):=by
    refine⟨?_,?_,?_⟩
    ·simp only[InstQ.e,e1,ap.out]
    ·refine List.nodup_append.2 ⟨n1,List.nodup_append.2 ⟨HN.out.1,z0L _ _,fun x hx y hy e=>?_⟩,fun x hx y hy e=>?_⟩
     ·have:=HN.out.2 x hx;have:=o3.lt y hy;omega
     ·rcases List.mem_append.1 hy with hy|hy
      ·have:=HN.out.2 y hy;have:=o1.lt x hx;omega
      ·exact C x hx y hy e
    ·intro x hx;rcases List.mem_append.1 hx with hx|hx
     ·have:=L1 x hx;omega
     ·rcases List.mem_append.1 hx with hx|hx
      ·have:=HN.out.2 x hx;omega
      ·have:=L3 x hx;omega
   clear e1 o1 n1 L1 N1 o3 L3 N3 C z av ap hO HN J
   go_wp2_with (first|(refine z0A (by kernel_rfl) 89 _ _ rfl _ #[.bool has,G s1 q1.length t1,G sa qs.length sc,G a3 dec.length c3] rfl rfl 89 _ ay z5C rfl (by simp[Value.oneCell']) ?_))
   obtain⟨k0,k1,k2,k3⟩:=Rz.cel4;exact bodyPost_ret (v:=.agg #[.bool has,G s1 q1.length t1,G sa qs.length sc,G a3 dec.length c3]) (by simp[results,results142,go_sem,k0,k1,k2,k3]) rfl ⟨⟨has,G s1 q1.length t1,q1,G sa qs.length sc,qs,G a3 dec.length c3,dec⟩,rfl,HR.out.1,⟨oa,ob,oc⟩,HR.out.2.1,HR.out.2.2,aY⟩
theorem z5I{p:InstQ}(h:insF p.e=0):(∀t∈p.batch,0<t.acts.length)∧(∀r∈p.rounds,0<r.rep.length∧0<r.pro.length)∧0<p.dec.length:=by
 obtain⟨h1,h2,h3,_,h5⟩:=q0j h;obtain⟨h6,_⟩:=z10 h;obtain⟨_,_,_,h7,h8⟩:=z1p h6;refine⟨?_,fun r hr=>?_,by have:p.dec.length=3:=h3;omega⟩
 ·cases hh:p.has with
  |true=>exact q5n (h8 hh)
  |false=>
   have:p.batch.map TxnQ.e=[]:=h7 hh;intro t ht;have:p.batch=[]:=List.map_eq_nil_iff.1 this;rw[this]at ht;simp at ht
 ·have:=h1 (Q r) (List.mem_map.2 ⟨r,hr,rfl⟩);have h9:r.rep.length=3∧r.pro.length=3:=this;omega
abbrev z1v(c:Int)(ps:List TxnQ):List TxnQ:=mkL z1n nmTxn c ps
abbrev z3Z(c:Int)(ps:List RoundQ):List RoundQ:=mkL z0w nmRound c ps
theorem z1b(v:Value)(c:Int)(ps:List TxnQ):txnK.fp v (z1v c ps)=txnK.fp v ps:=z99 z6P _ _ _
theorem z2p(v:Value)(c:Int)(ps:List RoundQ):roundK.fp v (z3Z c ps)=roundK.fp v ps:=z99 z4Q _ _ _
def z0B(c:Int)(p:InstQ):InstQ:=⟨((c) % 3==0),p.vb,z1v (c+1) p.batch,p.vr,z3Z (c+1+((nmL nmTxn p.batch:Nat):Int)) p.rounds,p.vd,z1F (c+1+((nmL nmTxn p.batch:Nat):Int)+((nmL nmRound p.rounds:Nat):Int)) p.dec⟩
def nmInsS(p:InstQ):Nat:=1+nmL nmTxn p.batch+nmL nmRound p.rounds+p.dec.length
theorem z5J(c:Int)(p:InstQ):instK.foot (z0B c p)=instK.foot p:=by
 simp only[z0B,show∀p:InstQ,instK.foot p=txnK.fp p.vb p.batch++(roundK.fp p.vr p.rounds++intK.fp p.vd p.dec)from fun _=>rfl,z1b,z2p,z1G]
theorem z5K(v:Value)(ps:List InstQ)(c:Int)(w:World)(h:instK.Own w v ps)(aG:(instK.fp v ps).Nodup)(hl:(ps.length+nmL InstQ.n ps)≤1048576)(h0:0≤c)(h1:c+(nmL nmInsS ps:Int)≤1099511627776):
  Calls Tryz.prog 33 #[v,.int .i64 c] w fun e w'=>e=.returned (.int .i64 (c+(nmL nmInsS ps:Int)))∧instK.Own w' v (mkL z0B nmInsS c ps)∧Out (instK.fp v ps) w w':=by
 obtain⟨a,cap,rfl⟩:=h.shape;have ad:∀k,k≤ps.length→instK.fp (G a ps.length cap) (half z0B nmInsS c ps k)=instK.fp (G a ps.length cap) ps:=fun k hk=>z5r z5J _ c ps k
 have HF:Hid (∀k,k≤ps.length→instK.fp (G a ps.length cap) (half z0B nmInsS c ps k)=instK.fp (G a ps.length cap) ps):=ad;have HA:Hid (instK.Own w (G a ps.length cap) (half z0B nmInsS c ps 0)):=by rw[z2D];exact h
 clear ad h;go_enter func33,ntmps33
 go_wp2
 go_loopw[1,5] (fun j i wr=>∃k:Nat,k≤ps.length∧j=.int .i64 (c+(nmL nmInsS (ps.take k):Int))∧i=.int .i64 k∧Hid (instK.Own wr (G a ps.length cap) (half z0B nmInsS c ps k))∧Hid (Out (instK.fp (G a ps.length cap) ps) w wr)) (fun _ i _=>ps.length-(intOf i).toNat)
 case atStart=>exact⟨0,Nat.zero_le _,by simp[nmL],rfl,HA,Out.refl _ _⟩
 case round=>
  clear HA;obtain⟨k,hk,rfl,rfl,HO,HU⟩:=hrel;by_cases V:k<ps.length
  ·have aN:(half z0B nmInsS c ps k).length=ps.length:=z1w _ _ _ _ _ hk;have hO:=HO.out;obtain⟨g,rfl⟩:=hO.blkOf (by omega);have ae:(instK.fp (G (some ⟨g,0,none⟩) ps.length cap) (half z0B nmInsS c ps k)).Nodup:=by rw[HF.out k hk];exact aG
   have T:Hid (∀x∈instK.foot ps[k],x∈instK.fp (G (some ⟨g,0,none⟩) ps.length cap) ps):=fun x hx=>by
    simp only[Kind.fp,List.mem_append,List.mem_flatMap];exact Or.inr ⟨_,List.getElem_mem V,hx⟩
   have ar:Hid (∀x∈[g],x∈instK.fp (G (some ⟨g,0,none⟩) ps.length cap) ps):=fun x hx=>by
    simp only[l]at hx;subst hx;simp[Kind.fp,blk,Value.ownBlock]
   have au:k<(half z0B nmInsS c ps k).length:=by omega
   have U:=z3M z0B nmInsS c ps k V;have C:instK.Own wr (G (some ⟨g,0,none⟩) ps.length cap) ((half z0B nmInsS c ps k).set k ps[k]):=by
    have e:(half z0B nmInsS c ps k).set k ps[k]=half z0B nmInsS c ps k:=by
     rw[←U,List.set_getElem_self]
    rw[e];exact hO
   have E:(instK.fp (G (some ⟨g,0,none⟩) ps.length cap) ((half z0B nmInsS c ps k).set k ps[k])).Nodup:=by
    have e:(half z0B nmInsS c ps k).set k ps[k]=half z0B nmInsS c ps k:=by
     rw[←U,List.set_getElem_self]
    rw[e];exact ae
   clear U hO ae;have af:=z3N z0B nmInsS c ps k V;have aI:=z0S nmInsS ps k V;have aC:=z2w nmInsS ps (k+1);have aK:=z01 InstQ.n ps k V;have an:Hid ((nmL nmInsS (ps.take (k+1)):Int)=(nmL nmInsS (ps.take k):Int)+(nmInsS ps[k]:Int)):=show _=_ by omega
   have aJ:(nmL nmInsS (ps.take k):Int)+(nmInsS ps[k]:Int)≤nmL nmInsS ps:=by omega
   have ab:Hid ((half z0B nmInsS c ps k).set k (z0B (c+(nmL nmInsS (ps.take k):Int)) ps[k])=half z0B nmInsS c ps (k+1)):=af;clear af aI aC HO;generalize half z0B nmInsS c ps k=hs at*;generalize aH:ps[k]=p at*;clear aH;obtain⟨am,M,d,J,z,I,D⟩:=p;have A:k<hs.length:=au;dsimp only[nmInsS,InstQ.n]at an aJ aK;generalize hy:(nmL nmInsS (ps.take k):Int)=y at*;have aO:0≤y:=by omega
   clear hy;obtain⟨c0,f0⟩:=C.cell' A 0 (.bool am) rfl;obtain⟨c1,f1⟩:=C.cell' A 1 (M) rfl;have c0:wr.cell? ⟨g,k*4,none⟩=_:=c0;have f0:wr.frozen? ⟨g,k*4,none⟩=_:=f0;have c1:wr.cell? ⟨g,k*4+1,none⟩=_:=c1;have f1:wr.frozen? ⟨g,k*4+1,none⟩=_:=f1;obtain⟨N,O⟩:=C.store' E A (⟨((c+y) % 3==0),M,d,J,z,I,D⟩:InstQ) 0 (.bool ((c+y) % 3==0)) (by decide) rfl rfl (fun _ h=>h);have C:instK.Own (wr.setCell ⟨g,k*4,none⟩ (.bool ((c+y) % 3==0))) (G (some ⟨g,0,none⟩) ps.length cap) (hs.set k (⟨((c+y) % 3==0),M,d,J,z,I,D⟩:InstQ)):=N;have E:=O;have HU:Hid (Out (instK.fp (G (some ⟨g,0,none⟩) ps.length cap) ps) w (wr.setCell ⟨g,k*4,none⟩ (.bool ((c+y) % 3==0)))):=(HU.out.trans ((Out.setCell _ g (k*4) (.bool ((c+y) % 3==0))).mono ar.out))
   have ao:=C.elem' A;have ah:txnK.Own (wr.setCell ⟨g,k*4,none⟩ (.bool ((c+y) % 3==0))) M d:=ao.1;have L:=z4r M d (c+y+1) _ ah (List.nodup_append.1 (z0k E A)).1 (by omega) (by omega) (by omega);obtain⟨ak,al,av⟩:=ah.shape;subst av;clear ao ah
   go_wp2_with fail
   refine L.mono ?_;rintro e Z ⟨rfl,aD,W⟩;clear L;obtain⟨N,O⟩:=C.turn' E A (⟨((c+y) % 3==0),G ak d.length al,z1v (c+y+1) d,J,z,I,D⟩:InstQ) W (fun x hx=>P _ hx) rfl (by simp only[show∀p:InstQ,instK.foot p=txnK.fp p.vb p.batch++(roundK.fp p.vr p.rounds++intK.fp p.vd p.dec)from fun _=>rfl,z1b,z2p,z1G]) (⟨aD,(C.elem' A).2.1.out W (fun k hk=>z06 (z0k E A) k (P _ hk)),(C.elem' A).2.2.out W (fun k hk=>z06 (z0k E A) k (H _ hk))⟩);have HU:Hid (Out (instK.fp (G (some ⟨g,0,none⟩) ps.length cap) ps) w Z):=HU.out.trans (W.mono (fun x hx=>T.out x (show x∈instK.foot _ from(fun x hx=>P _ hx) x hx)));have C:=N;have E:=O;obtain⟨c2,f2⟩:=C.cell' A 2 (J) rfl;have c2:Z.cell? ⟨g,k*4+2,none⟩=_:=c2;have f2:Z.frozen? ⟨g,k*4+2,none⟩=_:=f2;have ap:=C.elem' A;have ai:roundK.Own Z J z:=ap.2.1;have L:=z8z J z (c+y+1+((nmL nmTxn d:Nat):Int)) _ ai (List.nodup_append.1 (List.nodup_append.1 (z0k E A)).2.1).1 (by omega) (by omega) (by omega);obtain⟨ay,az,aw⟩:=ai.shape;subst aw;clear ap ai
   go_wp2_with fail
   refine L.mono ?_;rintro e aa ⟨rfl,aE,X⟩;clear L;obtain⟨N,O⟩:=C.turn' E A (⟨((c+y) % 3==0),G ak d.length al,z1v (c+y+1) d,G ay z.length az,z3Z (c+y+1+((nmL nmTxn d:Nat):Int)) z,I,D⟩:InstQ) X (fun x hx=>H _ (P _ hx)) rfl (by simp only[show∀p:InstQ,instK.foot p=txnK.fp p.vb p.batch++(roundK.fp p.vr p.rounds++intK.fp p.vd p.dec)from fun _=>rfl,z1b,z2p,z1G]) (⟨(C.elem' A).1.out X (fun k hk ag=>z1s (z0k E A) k hk (P _ ag)),aE,(C.elem' A).2.2.out X (z06 (List.nodup_append.1 (z0k E A)).2.1)⟩);have HU:Hid (Out (instK.fp (G (some ⟨g,0,none⟩) ps.length cap) ps) w aa):=HU.out.trans (X.mono (fun x hx=>T.out x (show x∈instK.foot _ from(fun x hx=>H _ (P _ hx)) x hx)));have C:=N;have E:=O;obtain⟨c3,f3⟩:=C.cell' A 3 (I) rfl;have c3:aa.cell? ⟨g,k*4+3,none⟩=_:=c3;have f3:aa.frozen? ⟨g,k*4+3,none⟩=_:=f3;have aq:=C.elem' A;have aj:intK.Own aa I D:=aq.2.2;have L:=z4i I D (c+y+1+((nmL nmTxn d:Nat):Int)+((nmL nmRound z:Nat):Int)) _ aj (by omega) (by omega) (by omega);obtain⟨aL,aM,ax⟩:=aj.shape;subst ax;clear aq aj
   go_wp2_with fail
   refine L.mono ?_;rintro e aA ⟨rfl,aF,Y⟩;clear L;obtain⟨N,O⟩:=C.turn' E A (⟨((c+y) % 3==0),G ak d.length al,z1v (c+y+1) d,G ay z.length az,z3Z (c+y+1+((nmL nmTxn d:Nat):Int)) z,G aL D.length aM,z1F (c+y+1+((nmL nmTxn d:Nat):Int)+((nmL nmRound z:Nat):Int)) D⟩:InstQ) Y (fun x hx=>H _ (H _ (hx))) rfl (by simp only[show∀p:InstQ,instK.foot p=txnK.fp p.vb p.batch++(roundK.fp p.vr p.rounds++intK.fp p.vd p.dec)from fun _=>rfl,z1b,z2p,z1G]) (⟨(C.elem' A).1.out Y (fun k hk ag=>z1s (z0k E A) k hk (H _ ag)),(C.elem' A).2.1.out Y (z1s (List.nodup_append.1 (z0k E A)).2.1),aF⟩);have HU:Hid (Out (instK.fp (G (some ⟨g,0,none⟩) ps.length cap) ps) w aA):=HU.out.trans (Y.mono (fun x hx=>T.out x (show x∈instK.foot _ from(fun x hx=>H _ (H _ (hx))) x hx)));have C:=N;have E:=O;have R:Hid (instK.Own aA (G (some ⟨g,0,none⟩) ps.length cap) (half z0B nmInsS c ps (k+1))):=by rw[←ab.out];exact C
   clear C E ab T ar
   go_wp2
   go_roundw
   case rel=>exact⟨k+1,by omega,by rw[an.out];congr 1;omega,by go_num,R.out,HU.out⟩
   case measure=>simp[intOf];omega
  ·have aB:k=ps.length:=by omega
   subst aB;have hO:=HO.out;rw[z3L]at hO;rw[List.take_length];clear HF HO
   go_wp2
   go_ret;exact⟨rfl,hO,HU.out⟩
theorem z5L(v:Value)(ps:List InstQ)(c:Int)(w:World)(h:instK.At w v (mkL z0B nmInsS c ps))(hl:(ps.length+nmL InstQ.n ps)≤1048576)(h0:0≤c)(h1:c+(nmL nmInsS ps:Int)≤1099511627776):
  Calls Tryz.prog 63 #[v,.int .i64 c] w fun e w'=>e=.returned (.int .i64 (c+(nmL nmInsS ps:Int)))∧Below w.heap.size w w':=by
 obtain⟨a,cap,rfl⟩:=h.shape;have N:=z0U z0B nmInsS c ps;rw[N]at h⊢;have HM:Hid ((mkL z0B nmInsS c ps).length=ps.length):=N;clear N;go_enter func63,ntmps63
 go_wp2
 go_loopw[1,5] (fun j i wr=>∃k:Nat,k≤ps.length∧j=.int .i64 (c+(nmL nmInsS (ps.take k):Int))∧i=.int .i64 k∧Below w.heap.size w wr) (fun _ i _=>ps.length-(intOf i).toNat)
 case atStart=>exact⟨0,Nat.zero_le _,by simp[nmL],rfl,Below.refl _ _⟩
 case round=>
  obtain⟨k,hk,rfl,rfl,hb⟩:=hrel;by_cases M:k<ps.length
  ·have Y:k<(mkL z0B nmInsS c ps).length:=by have:=HM.out;omega
   obtain⟨b,ak,rfl,al,hc,Z⟩:=(h.below hb).cell (by decide) k Y;rw[z4h z0B nmInsS c ps k M]at hc Z;have ah:=z0S nmInsS ps k M;have af:=z2w nmInsS ps (k+1);have aj:=z01 InstQ.n ps k M;have T:Hid ((nmL nmInsS (ps.take (k+1)):Int)=(nmL nmInsS (ps.take k):Int)+(nmInsS ps[k]:Int)):=show _=_ by omega
   have ai:(nmL nmInsS (ps.take k):Int)+(nmInsS ps[k]:Int)≤nmL nmInsS ps:=by omega
   clear ah af h;generalize ag:ps[k]=p at*;clear ag;obtain⟨O,C,d,E,z,D,A⟩:=p;dsimp only[nmInsS,InstQ.n]at T ai aj;generalize hy:(nmL nmInsS (ps.take k):Int)=y at*;have am:0≤y:=by omega
   clear hy;have J:∀j x,(instK.cells (z0B (c+y) (⟨O,C,d,E,z,D,A⟩:InstQ)))[j]?=some x→wr.cell? ⟨b,ak+k*4+j,none⟩=some x:=hc;clear hc;have c0:=J 0 (.bool ((c+y) % 3==0)) rfl;have an:(((c+y) % 3==0) !=((c+y) % 3==0))=false:=by simp
   have c1:=J 1 (C) rfl;have c2:=J 2 (E) rfl;have c3:=J 3 (D) rfl;obtain⟨r1,r2,r3⟩:txnK.At wr C (z1v (c+y+1) d)∧roundK.At wr E (z3Z (c+y+1+((nmL nmTxn d:Nat):Int)) z)∧intK.At wr D (z1F (c+y+1+((nmL nmTxn d:Nat):Int)+((nmL nmRound z:Nat):Int)) A):=Z;have V:=fun w h=>z4s C d (c+y+1) w h (by omega) (by omega) (by omega)
   have W:=fun w h=>z8A E z (c+y+1+((nmL nmTxn d:Nat):Int)) w h (by omega) (by omega) (by omega)
   have X:=fun w h=>z4j D A (c+y+1+((nmL nmTxn d:Nat):Int)+((nmL nmRound z:Nat):Int)) w h (by omega) (by omega) (by omega)
   obtain⟨ar,aw,aa⟩:=r1.shape;subst aa;obtain⟨au,ax,ab⟩:=r2.shape;subst ab;obtain⟨av,ay,ad⟩:=r3.shape;subst ad;rw[Nat.add_zero]at c0;clear J;have ao:¬(c+y+1+((nmL nmTxn d:Nat):Int)<0):=by omega
   go_wp2_with fail
   refine(V wr r1).mono ?_;rintro e w1 ⟨rfl,I⟩;replace hb:=hb.trans (I.mono hb.size);replace c2:=(I.cell (p:=⟨b,_,none⟩) (World.block_lt_of_cell? _ _ c2)).trans c2;replace c3:=(I.cell (p:=⟨b,_,none⟩) (World.block_lt_of_cell? _ _ c3)).trans c3;replace r2:=r2.below I;replace r3:=r3.below I;clear I V c0 c1;have ap:¬(c+y+1+((nmL nmTxn d:Nat):Int)+((nmL nmRound z:Nat):Int)<0):=by omega
   go_wp2_with fail
   refine(W w1 r2).mono ?_;rintro e w2 ⟨rfl,L⟩;replace hb:=hb.trans (L.mono hb.size);replace c3:=(L.cell (p:=⟨b,_,none⟩) (World.block_lt_of_cell? _ _ c3)).trans c3;replace r3:=r3.below L;clear L W c2;have aq:¬(c+y+1+((nmL nmTxn d:Nat):Int)+((nmL nmRound z:Nat):Int)+((A.length:Nat):Int)<0):=by omega
   go_wp2_with fail
   refine(X w2 r3).mono ?_;rintro e w3 ⟨rfl,U⟩;replace hb:=hb.trans (U.mono hb.size);clear U X c3
   go_wp2
   go_roundw
   case rel=>exact⟨k+1,by omega,by rw[T.out];congr 1;omega,by go_num,hb⟩
   case measure=>simp[intOf];omega
  ·have ae:k=ps.length:=by omega
   subst ae;rw[List.take_length]
   go_wp2
   go_ret;exact⟨rfl,hb⟩
end Go.Proofs.YtjjoahhnkpjolaaGreatDoor

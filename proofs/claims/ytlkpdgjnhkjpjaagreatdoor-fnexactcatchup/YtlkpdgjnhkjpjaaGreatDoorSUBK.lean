import Derived.Test.YtlkpdgjnhkjpjaaGreatDoorSUBJ
set_option linter.unusedVariables false
set_option linter.unusedSimpArgs false
set_option maxRecDepth 100000
set_option maxHeartbeats 16000000
namespace Go.Proofs.YtlkpdgjnhkjpjaaGreatDoor
open Go.RowKit Go.BigFrame
open TxnQ renaming e->f
open InstQ renaming e->r
open List renaming length_map->Va
open Out renaming of_below->Vb
open IntKind renaming i64->Q
open Value renaming int->H,slice->G
open Go.Proofs.Tryz renaming prog->P
open Go.Proofs.Tryz
theorem z93(x0 x1 aL aN:Int)(b1:Nat)(p:RepQ)(vf:Value)(fs:List TxnQ)(w:World)(hB:Blk w b1 35 #[H Q x0,H Q x1,H Q aL,H Q aN,p.vd,p.vb,p.vt,p.vu,p.vn])(h:repK.own w p)(hT:txnK.At w vf fs)(aV:∀q∈fs,z3q q)(aU:z1L vf)(hl:p.n≤1048576)(aG:fs.length+nmL TxnQ.n fs≤1048576)(h0:repF p.e=0)(h1:lstF (fs.map f)=0):
  Calls P 115 #[.pointer (some ⟨b1,4,none⟩),vf] w fun e w'=>∃q:RepQ,e=.returned (.agg #[H Q (dlC p.e (fs.map f)),H Q (dlA p.e (fs.map f)),H Q 0,q.vd,q.vb,q.vt,q.vu,q.vn])∧q.e=dlE p.e (fs.map f)∧repK.own w' q∧(repK.foot q).Nodup∧(∀k∈repK.foot q,w.heap.size≤k)∧Below w.heap.size w w':=by
 have d:=z7L p.e (fs.map f);rw[h0,h1]at d;have az:∀c,dlC p.e (fs.map f)=c→c≠0→dlC p.e (fs.map f)=c∧dlA p.e (fs.map f)=0∧dlE p.e (fs.map f)=⟨[],[],[],[],[]⟩:=fun c e h=>⟨e,by rw[dlA,if_neg (by rw[e];exact h)],by rw[dlE,if_neg (by rw[e];exact h)]⟩
 have A:Hid _:=az;clear az;have HE:Hid (dlC p.e (fs.map f)=0→dlA p.e (fs.map f)=plB (p.tent.map f) (fs.map f)∧dlE p.e (fs.map f)=mkR ((p.done++fs).map f) (plK (p.tent.map f) (fs.map f))∧bthF (p.tent.map f) (fs.map f)=0∧(∀t∈plK (p.tent.map f) (fs.map f),t.F=0)∧(plK (p.tent.map f) (fs.map f)).length≤8):=fun e=>by
  obtain⟨z0,z1,z2,z3,z4,z5,z6,z7⟩:=z7M e;exact⟨if_pos e,by rw[dlE,if_pos e,List.map_append];rfl,z4,z6,z7⟩
 have hz:=z3b h0;have ha:=((z1g _).1 hz.2.1).2.1;have ak:=((z1g _).1 h1)
 have ap:Hid (∀q∈p.done,(f q).F=0):=fun q hq=>ha _ (List.mem_append_left _ (List.mem_map.2 ⟨q,hq,rfl⟩))
 have aQ:Hid (∀q∈fs,(f q).F=0):=fun q hq=>ak.2.1 _ (List.mem_map.2 ⟨q,hq,rfl⟩)
 have aH:p.done.length≤16:=by have:=hz.1.1;simpa[RepQ.e]using this
 have bo:fs.length≤40:=by have:=ak.1;simpa using this
 have aF:∀w' va,txnK.At w' p.vd p.done→∀b o (x:TxnD),Box4 w' b o (H Q x.id) (H Q x.session) (H Q x.seq) va→Calls P 174 #[p.vd,.pointer (some ⟨b,o,none⟩)] w' fun e bm=>e=.returned (.bool (knw (p.done.map f) x))∧Below w'.heap.size w' bm:=fun w' va hA b o x hB=>z2p p.vd p.done b o x va w' hA hB (by omega)
 have aB:frK p.e.done (fs.map f)=frK (p.done.map f) (fs.map f):=rfl;have aA:p.e.done.length=p.done.length:=by simp[RepQ.e]
 rw[aB,aA,Va]at d;have hr:=fun(w':World) (hb:Below w.heap.size w w')=>repK.own_out (F:=[]) (w':=w') h (Vb hb) (fun _ _=>by simp)
 have ao:=fun(w':World) (hb:Below w.heap.size w w')=>hT.below hb
 have ab:Hid ((∀q∈fs,z3q q)∧∀q∈p.done,z3q q):=⟨aV,fun q hq=>z5a (h.1.2 q hq)⟩
 have Z:Hid (z1L p.vt∧z1L vf):=⟨h.2.2.1.capOk,aU⟩
 have aJ:p.tent.length+nmL TxnQ.n p.tent≤1048576:=by dsimp only[RepQ.n]at hl;omega
 have aI:p.done.length+nmL TxnQ.n p.done≤1048576:=by dsimp only[RepQ.n]at hl;omega
 have am:=fun w' hA hB hC=>q1j p.vt vf p.tent fs w' hA hB Z.out.1 Z.out.2 aJ aG hC
 have aa:Hid ((∀j,j<fs.length→knw (p.done.map f) ((fs.map f).getD j z0T)=false)→frK (p.done.map f) (fs.map f)=false):=fun hh=>q4K (fun j hj=>hh j (by simpa using hj))
 have N:Hid (∀k (hk:k<fs.length),knw (p.done.map f) (f fs[k])=true→frK (p.done.map f) (fs.map f)=true):=fun k hk hx=>q3h (t:=f fs[k]) (List.mem_map.2 ⟨fs[k],List.getElem_mem hk,rfl⟩) hx
 obtain⟨fa,fk,rfl⟩:=hT.shape;generalize dlA p.e (fs.map f)=AA at*;generalize dlE p.e (fs.map f)=RE at*;generalize dlC p.e (fs.map f)=C at*;generalize frK (p.done.map f) (fs.map f)=FK at*;clear hz ha ak aB aA Z;obtain⟨bd,pd,bc,pb,bf,pt,bg,pu,be,pn⟩:=p;obtain⟨p0,p5,rfl⟩:∃a c,bd=G a pd.length c:=h.1.shape;obtain⟨p1,p6,rfl⟩:∃a c,bc=G a pb.length c:=h.2.1.shape;obtain⟨p2,p7,rfl⟩:∃a c,bf=G a pt.length c:=h.2.2.1.shape;obtain⟨p3,p8,rfl⟩:∃a c,bg=G a pu.length c:=h.2.2.2.1.shape;obtain⟨p4,p9,rfl⟩:∃a c,be=G a pn.length c:=h.2.2.2.2.shape;dsimp only at d HE ap aH aF hr ab aJ aI am aa N;have b0:Below w.heap.size w (w.alloc (.cells #[H Q 0,H Q 0,H Q 0,G none 0 0,G none 0 0,G none 0 0,G none 0 0,G none 0 0] 95)):=by go_grown
 have RB:=Blk.new w 95 #[H Q 0,H Q 0,H Q 0,G none 0 0,G none 0 0,G none 0 0,G none 0 0,G none 0 0];have bn:=hB.lt;go_enter func115,ntmps115
 go_wp2_with fail
 generalize w.alloc (.cells #[H Q 0,H Q 0,H Q 0,G none 0 0,G none 0 0,G none 0 0,G none 0 0,G none 0 0] 95)=W at*;go_loopw[5] (fun j wr=>∃k:Nat,k≤fs.length∧j=H Q k∧Below w.heap.size w wr∧Blk wr w.heap.size 95 #[H Q 0,H Q 0,H Q 0,G none 0 0,G none 0 0,G none 0 0,G none 0 0,G none 0 0]∧Hid (∀j,j<k→knw (pd.map f) ((fs.map f).getD j z0T)=false)) (fun j _=>fs.length-(intOf j).toNat)
 case atStart=>exact⟨0,Nat.zero_le _,rfl,b0,RB,fun j hj=>absurd hj (Nat.not_lt_zero _)⟩
 case round=>
  clear b0 RB;obtain⟨k,hk,rfl,b0,RB,HA⟩:=hrel;have BA:=hB.below b0;by_cases J:k<fs.length
  ·obtain⟨b',U,aW,bv,hc,a6⟩:=(ao wr b0).cell (by decide) k J;subst aW;have E:∀j x,(txnK.cells fs[k])[j]?=some x→wr.cell? ⟨b',U+k*4+j,none⟩=some x:=hc;have aw:Box4 wr b' (U+k*4) (H Q fs[k].i) (H Q fs[k].s) (H Q fs[k].q) fs[k].va:=⟨by simpa using E 0 _ rfl,E 1 _ rfl,E 2 _ rfl,E 3 _ rfl⟩
   have HY:Hid (knw (pd.map f) (f fs[k])=true→FK=true):=fun hx=>N.out k J hx
   have HN:Hid (knw (pd.map f) (f fs[k])=false→∀j,j<k+1→knw (pd.map f) ((fs.map f).getD j z0T)=false):=fun hx j hj=>by
    by_cases aX:j=k
    ·subst aX;rw[z1t fs j J];exact hx
    ·exact HA.out j (by omega)
   clear HA hc E N;generalize fs[k]=p at*;have hW:Below wr.heap.size wr wr.drew:=(Below.refl _ _).drew;have aZ:Nonempty (Lat wr):=⟨⟨wr,Below.refl _ _⟩⟩
   have f0:=BA.lat 4 _ rfl;have V:(k:Int)<(fs.length:Int):=by omega
   have hq:=aF wr.drew p.va ((hr wr b0).1.at.below hW) b' (U+k*4) (f p) (aw.below hW);generalize knw (pd.map f) (f p)=S at*
   go_wp2_with fail
   refine z0a (S:=fun w'=>∃u:Lat wr,w'=u.val) (by kernel_rfl) ?_;refine sgr [(0,7)] 1 (by kernel_rfl) ⟨⟨_,hW⟩,rfl⟩ ?_;simp only[pkE];repeat go_big_quiet_step (fail)
   refine wpQuiet_nil ?_;clear f0;refine cla 7 (some 20) 174 #[G p0 pd.length p5,.pointer (some ⟨b',U+k*4,none⟩)] 0 (by kernel_rfl) ?_;refine hq.mono ?_;rintro e w2 ⟨rfl,hb⟩;replace hW:=hW.trans (hb.mono hW.size);clear hb hq;refine⟨_,rfl,⟨⟨_,hW⟩,rfl⟩,?_⟩;simp only[Act.put,pgE,pjE];refine z0e (by kernel_rfl) ?_;replace RB:=RB.below hW;replace b0:=z0l b0 hW;clear hW aZ aw BA a6
   cases S with
   |true=>
    have y:FK=true:=HY.out rfl;subst y;have HZ:Hid (C=6∧AA=0∧RE=⟨[],[],[],[],[]⟩):=by
     rcases d with⟨a,_⟩|⟨_,a,_⟩|⟨_,_,_,b⟩|⟨_,_,a,_⟩|⟨_,_,a,_⟩
     ·exact absurd rfl a
     ·exact absurd rfl a
     ·exact A.out 6 b (by decide)
     ·cases a
     ·cases a
    clear HY HN d HE A;have I:=fun w=>z84 6 w
    go_wp2_with fail
    refine(I _).mono ?_;rintro e wb ⟨rfl,hb⟩;replace b0:=z0l b0 hb;replace RB:=RB.below hb;clear hb I;have Rr:=RB.row #[H Q 6,H Q 0,H Q 0,G none 0 0,G none 0 0,G none 0 0,G none 0 0,G none 0 0];have ai:=z0j (g:=w.heap.size) b0 (by omega) #[H Q 6,H Q 0,H Q 0,G none 0 0,G none 0 0,G none 0 0,G none 0 0,G none 0 0]
    go_wp2_with (first|(refine z0s (by kernel_rfl) 95 _ _ rfl _ #[H Q 6,H Q 0,H Q 0,G none 0 0,G none 0 0,G none 0 0,G none 0 0,G none 0 0] rfl rfl 95 _ RB q1v rfl (by simp[Value.oneCell']) ?_))
    obtain⟨z0,z1,z2,z3,z4,z5,z6,z7⟩:=Rr.cel8;first|done|skip
    exact bodyPost_ret (v:=.agg #[H Q 6,H Q 0,H Q 0,G none 0 0,G none 0 0,G none 0 0,G none 0 0,G none 0 0]) (by simp[results,results115,go_sem,z0,z1,z2,z3,z4,z5,z6,z7]) rfl ⟨q3y,by rw[HZ.out.1,HZ.out.2.1];rfl,HZ.out.2.2.symm,(z1l _).1,by rw[(z1l w).2];simp,by rw[(z1l w).2];simp,ai⟩
   |false=>
    have aR:Hid _:=HN.out rfl;clear HY HN
    go_wp2
    go_roundw
    case rel=>exact⟨k+1,by omega,by go_num,b0,RB,aR⟩
    case measure=>simp[intOf];omega
  ·have aY:k=fs.length:=by omega
   subst aY;have y:FK=false:=aa.out HA.out;subst y;have V:¬((fs.length:Int)<(fs.length:Int)):=by omega
   clear HA aa N;have d0:=BA.cell 4 _ rfl;by_cases av:16<pd.length+fs.length
   ·have HZ:Hid (C=7∧AA=0∧RE=⟨[],[],[],[],[]⟩):=by
     rcases d with⟨a,_⟩|⟨_,a,_⟩|⟨_,_,a,_⟩|⟨_,_,_,_,b⟩|⟨_,_,_,a,_⟩
     ·exact absurd rfl a
     ·exact absurd rfl a
     ·cases a
     ·exact A.out 7 b (by decide)
     ·exact absurd av a
    have au:(16:Int)<(pd.length:Int)+(fs.length:Int):=by omega
    clear d HE A;have I:=fun w=>z84 7 w
    go_wp2_with fail
    refine(I _).mono ?_;rintro e wb ⟨rfl,hb⟩;replace b0:=z0l b0 hb;replace RB:=RB.below hb;clear hb I;have Rr:=RB.row #[H Q 7,H Q 0,H Q 0,G none 0 0,G none 0 0,G none 0 0,G none 0 0,G none 0 0];have ai:=z0j (g:=w.heap.size) b0 (by omega) #[H Q 7,H Q 0,H Q 0,G none 0 0,G none 0 0,G none 0 0,G none 0 0,G none 0 0]
    go_wp2_with (first|(refine z0s (by kernel_rfl) 95 _ _ rfl _ #[H Q 7,H Q 0,H Q 0,G none 0 0,G none 0 0,G none 0 0,G none 0 0,G none 0 0] rfl rfl 95 _ RB q1v rfl (by simp[Value.oneCell']) ?_))
    obtain⟨z0,z1,z2,z3,z4,z5,z6,z7⟩:=Rr.cel8;first|done|skip
    exact bodyPost_ret (v:=.agg #[H Q 7,H Q 0,H Q 0,G none 0 0,G none 0 0,G none 0 0,G none 0 0,G none 0 0]) (by simp[results,results115,go_sem,z0,z1,z2,z3,z4,z5,z6,z7]) rfl ⟨q3y,by rw[HZ.out.1,HZ.out.2.1];rfl,HZ.out.2.2.symm,(z1l _).1,by rw[(z1l w).2];simp,by rw[(z1l w).2];simp,ai⟩
   ·have X:C=0:=by
     rcases d with⟨a,_⟩|⟨_,a,_⟩|⟨_,_,a,_⟩|⟨_,_,_,a,_⟩|⟨_,_,_,_,b⟩
     ·exact absurd rfl a
     ·exact absurd rfl a
     ·cases a
     ·exact absurd a av
     ·exact b
    have au:¬(16:Int)<(pd.length:Int)+(fs.length:Int):=by omega
    obtain⟨eA,eE,ax,y,aj⟩:=HE.out X;clear d HE A;have d2:=BA.cell 6 _ rfl
    go_wp2_with fail
    clear d0 d2 au V;refine(am wr (hr wr b0).2.2.1.at (ao wr b0) ax).mono ?_;rintro e w4 ⟨v1,v2,q1,kq,rfl,e1,e2,o1,O,bb,aS,hb⟩;obtain⟨ae,af,aC⟩:=o1.shape;generalize aD:q1.length=ag at aC;subst aC;obtain⟨ka,kc,rfl⟩:=O.shape;replace BA:=BA.below hb;replace RB:=RB.below hb;replace b0:=z0l b0 hb;clear hb am bb aS o1 e1 aD;have aP:Hid (∀q∈kq,(f q).F=0):=fun q hq=>y _ (by rw[←e2];exact List.mem_map.2 ⟨q,hq,rfl⟩)
    have bw:kq.length≤8:=by rw[←e2,Va]at aj;exact aj
    have z:Hid (C=0∧AA=_∧RE=mkR ((pd++fs).map f) (kq.map f)):=⟨X,eA,by rw[e2];exact eE⟩
    clear y aj eA eE e2 ax X;generalize plN (pt.map f) (fs.map f)=PN at*;generalize plB (pt.map f) (fs.map f)=PB at*;have D:Below w4.heap.size w4 (w4.alloc (.cells #[H Q 0,H Q PN,H Q PB,G ae ag af,G ka kq.length kc] 216)):=by go_grown
    have BP:=Blk.new w4 216 #[H Q 0,H Q PN,H Q PB,G ae ag af,G ka kq.length kc];have bp:w4.heap.size≠w.heap.size:=by have:=RB.lt;omega
    replace BA:=BA.below D;replace RB:=RB.below D;replace b0:=z0l b0 D;replace O:=O.below D;clear D
    go_wp2_with fail
    generalize w4.alloc (.cells #[H Q 0,H Q PN,H Q PB,G ae ag af,G ka kq.length kc] 216)=Y at*;generalize w4.heap.size=gp at*;have hW:Below Y.heap.size Y Y.drew:=(Below.refl _ _).drew;have c2:=z02 (F:=[w.heap.size]) (BP.cell 2 _ rfl) (by simp;omega);have c4:=z02 (F:=[w.heap.size]) (BP.cell 4 _ rfl) (by simp;omega);have e0:=z02 (F:=[w.heap.size]) (BA.cell 4 _ rfl) (by simp;omega);have bx:Nonempty (KeepP (Out [w.heap.size] Y)):=⟨⟨Y,Out.refl _ _⟩⟩
    have hO:Out [w.heap.size] Y Y.drew:=Vb hW;obtain⟨i0,hi,a7,a8,ba⟩:=info_parts z1f;refine z0a (S:=fun w'=>∃u:KeepP (Out [w.heap.size] Y),w'=u.val) (by kernel_rfl) ?_;refine sgr [(0,6),(7,1),(10,2)] 6 (by kernel_rfl) ⟨⟨_,hO⟩,rfl⟩ ?_;simp only[pkE];repeat go_big_quiet_step (fail)
    refine wpQuiet_nil ?_;clear c2 c4 e0;have L:=b0.trans (hW.mono b0.size);refine cla 6 (some 44) 170 #[G p0 pd.length p5] 5 (by kernel_rfl) ?_;refine(z1C (G p0 pd.length p5) pd _ (hr _ L).1.at ab.out.2 aI).mono ?_;rintro e x1 ⟨v1,q1,rfl,e1,o1,n1,g1,hb⟩;have ND:Hid (∀k,∀q∈q1,k∈txnK.foot q→k∉blk v1):=fun k q hq hk hb=>(List.nodup_append.1 n1).2.2 k hb k (List.mem_flatMap.2 ⟨q,hq,hk⟩) rfl
    have bu:Y.heap.size≤Y.drew.heap.size:=hW.size;replace hW:=hW.trans (hb.mono hW.size);clear hb n1 L;replace hO:Out [w.heap.size] Y x1:=Vb hW;obtain⟨a1,k1,rfl⟩:=o1.shape;refine⟨_,rfl,⟨⟨_,hO⟩,rfl⟩,?_⟩;simp only[Act.put,pgE,pjE];have L:=b0.trans (hW.mono b0.size);have i1:=o1.lt;refine cla 8 (some 46) 170 #[G fa fs.length fk] 4 (by kernel_rfl) ?_;refine(z1C (G fa fs.length fk) fs _ (ao _ L) ab.out.1 aG).mono ?_;rintro e x2 ⟨v2,q2,rfl,e2,o2,_,g2,hb⟩;obtain⟨a2,k2,rfl⟩:=o2.shape;replace o1:=o1.below hb;have bq:=hb.size;have br:=hW.size;replace hW:=hW.trans (hb.mono hW.size);clear hb L;replace hO:Out [w.heap.size] Y x2:=Vb hW;refine⟨_,rfl,⟨⟨_,hO⟩,rfl⟩,?_⟩;simp only[Act.put,pgE,pjE];have l1:q1.length=pd.length:=by simpa using congrArg List.length e1
    have l2:q2.length=fs.length:=by simpa using congrArg List.length e2
    obtain⟨_,_,ee,M,aM⟩:=o2.at;simp only[Value.slice.injEq,true_and]at ee;obtain⟨rfl,rfl⟩:=ee;have w1:q1.length+q2.length≤maxLen:=by unfold maxLen;omega
    have w2:(q1.length+q2.length)*48≤140737488355328:=by omega
    have aq:Hid ((q1++q2).length≤40):=show _≤_ by rw[List.length_append];omega
    clear l1 l2;refine ona 9 3 rfl (by kernel_rfl) ?_;refine z1c (K:=txnK) _ rfl _ _ 25 rfl i0 (.agg #[H Q 0,H Q 0,H Q 0,G none 0 0]) 48 Tryz.underlying25 hi a7 a8 ba rfl (by decide) 0 _ q1 rfl o1.1 _ q2 _ rfl M (z48 aM) (o2.niceV _ _ _ rfl) w1 w2 (by omega) ?_;intro v3 x3 aK aE;have T:Out (blk (G a1 q1.length k1)) x2 x3:=Out.of_grown aE;have ad:∀x∈blk (G a1 q1.length k1),Y.heap.size≤x∧x<x1.heap.size:=fun x hx=>⟨by have:=g1 x (by simp only[Kind.fp,List.mem_append];exact Or.inl hx);omega,i1 x (by simp only[Kind.fp,List.mem_append];exact Or.inl hx)⟩
    have ah:txnK.At x3 v3 (q1 ++ q2):=Kind.at_of_row aK (fun q hq=>by
     rcases List.mem_append.1 hq with hq|hq
     ·exact txnK.own_rd (txnK.own_out (o1.2 q hq) T (fun k hk e=>ND.out k q hq hk e))
     ·exact txnK.own_rd (txnK.own_out (o2.2 q hq) T (fun k hk e=>by
       have:=g2 k (by simp only[Kind.fp,List.mem_append,List.mem_flatMap];exact Or.inr ⟨q,hq,hk⟩);have:=(ad k e).2;omega)))
    replace hW:Below Y.heap.size Y x3:=Out.keep hW T hW.size (fun x hx=>(ad x hx).1);replace hO:Out [w.heap.size] Y x3:=Vb hW;obtain⟨a3,k3,rfl⟩:=ah.shape
    go_wp2
    refine ThenGo.to ⟨⟨⟨_,hO⟩,rfl⟩,?_⟩;simp only[Act.put,pgE,pjE];have ay:∀q∈q1++q2,(f q).F=0:=fun q hq=>by
     rcases List.mem_append.1 hq with hq|hq
     ·have:f q∈pd.map f:=by rw[←e1];exact List.mem_map.2 ⟨q,hq,rfl⟩
      obtain⟨q',an,e'⟩:=List.mem_map.1 this;rw[←e'];exact ap.out q' an
     ·have:f q∈fs.map f:=by rw[←e2];exact List.mem_map.2 ⟨q,hq,rfl⟩
      obtain⟨q',an,e'⟩:=List.mem_map.1 this;rw[←e'];exact aQ.out q' an
    have ar:Hid ((q1++q2).map f=(pd++fs).map f):=show _=_ by rw[List.map_append,List.map_append,e1,e2]
    have al:=z4m (.slice a3 (q1++q2).length k3) (G ka kq.length kc) (q1++q2) kq x3 ah (O.at.below hW) ay aP.out aq.out (by omega);rw[ar.out]at al;clear aE T ad aK M aM o1 o2 g1 g2 i1 ND ah;refine cla 12 (some 50) 122 #[.slice a3 (q1++q2).length k3,G ka kq.length kc] 2 (by kernel_rfl) ?_;refine al.mono ?_;rintro e w7 ⟨q,rfl,eq,oq,nq,gq,hb⟩;have bt:=hW.size;replace hW:=hW.trans (hb.mono hW.size);have bs:=RB.lt;replace RB:=RB.below hW;have bz:=b0.size;replace hO:Out [w.heap.size] Y w7:=Vb hW;replace b0:=b0.trans (hW.mono b0.size);have aT:∀k∈repK.foot q,k≠w.heap.size:=fun k hk=>by have:=gq k hk;omega
    have gw:∀k∈repK.foot q,w.heap.size≤k:=fun k hk=>by have:=gq k hk;omega
    clear hb gq al ay;refine⟨_,rfl,⟨⟨_,hO⟩,rfl⟩,?_⟩;simp only[Act.put,pgE,pjE];obtain⟨bi,qd,bh,qb,bk,qt,bl,qu,bj,qn⟩:=q;obtain⟨s0,t0,rfl⟩:∃a c,bi=G a qd.length c:=oq.1.shape;obtain⟨s1,t1,rfl⟩:∃a c,bh=G a qb.length c:=oq.2.1.shape;obtain⟨s2,t2,rfl⟩:∃a c,bk=G a qt.length c:=oq.2.2.1.shape;obtain⟨s3,t3,rfl⟩:∃a c,bl=G a qu.length c:=oq.2.2.2.1.shape;obtain⟨s4,t4,rfl⟩:∃a c,bj=G a qn.length c:=oq.2.2.2.2.shape;have aO:Hid _:=eq;clear eq;refine sgr [(13,1)] 1 (by kernel_rfl) ⟨⟨_,hO⟩,rfl⟩ ?_;simp only[pkE];repeat go_big_quiet_step (fail)
    refine wpQuiet_nil ?_;refine ona 14 0 rfl (by kernel_rfl) ?_;have Rz:=RB.row #[H Q 0,H Q PB,H Q 0,G s0 qd.length t0,G s1 qb.length t1,G s2 qt.length t2,G s3 qu.length t3,G s4 qn.length t4];have oz:=repK.own_out oq (z0L _ (w.heap.size) #[H Q 0,H Q PB,H Q 0,G s0 qd.length t0,G s1 qb.length t1,G s2 qt.length t2,G s3 qu.length t3,G s4 qn.length t4]) (fun k hk=>by simp only[List.mem_singleton];exact aT k hk);replace hO:Out [w.heap.size] Y _:=hO.trans (z0L w7 (w.heap.size) #[H Q 0,H Q PB,H Q 0,G s0 qd.length t0,G s1 qb.length t1,G s2 qt.length t2,G s3 qu.length t3,G s4 qn.length t4]);replace b0:=z0j (g:=w.heap.size) b0 (by omega) #[H Q 0,H Q PB,H Q 0,G s0 qd.length t0,G s1 qb.length t1,G s2 qt.length t2,G s3 qu.length t3,G s4 qn.length t4];refine z0s (by kernel_rfl) 95 _ _ rfl _ #[H Q 0,H Q PB,H Q 0,G s0 qd.length t0,G s1 qb.length t1,G s2 qt.length t2,G s3 qu.length t3,G s4 qn.length t4] rfl rfl 95 _ RB q1v rfl (by simp[Value.oneCell']) ?_;refine ThenGo.to ⟨⟨⟨_,hO⟩,rfl⟩,?_⟩;refine z0e (by kernel_rfl) ?_;obtain⟨z0,z1,z2,z3,z4,z5,z6,z7⟩:=Rz.cel8
    go_wp2
    exact bodyPost_ret (v:=.agg #[H Q 0,H Q PB,H Q 0,G s0 qd.length t0,G s1 qb.length t1,G s2 qt.length t2,G s3 qu.length t3,G s4 qn.length t4]) (by simp[results,results115,go_sem,z0,z1,z2,z3,z4,z5,z6,z7]) rfl ⟨(⟨G s0 qd.length t0,qd,G s1 qb.length t1,qb,G s2 qt.length t2,qt,G s3 qu.length t3,qu,G s4 qn.length t4,qn⟩:RepQ),by rw[z.out.1,z.out.2.1],aO.out.trans z.out.2.2.symm,oz,nq,gw,b0⟩
theorem q1A(x0 x1:Int)(b:Nat)(kn sf:Int)(p:RepQ)(v:Value)(ps:List InstQ)(w:World)(hB:Blk w b 35 #[H Q x0,H Q x1,H Q kn,H Q sf,p.vd,p.vb,p.vt,p.vu,p.vn])(h:instK.At w v ps)(hl:(ps.length+nmL InstQ.n ps)≤1048576)(hp:repK.own w p)(aJ:p.n≤1048576)(h0:nodF (ps.map r) kn sf p.e=0):
  Calls P 66 #[v,.pointer (some ⟨b,2,none⟩)] w fun e w'=>∃q:RepQ,e=.returned (.agg #[H Q (leC (ps.map r) kn sf p.e),H Q (leA (ps.map r) kn sf p.e),H Q (leK (ps.map r) kn sf p.e),H Q (leS (ps.map r) kn sf p.e),q.vd,q.vb,q.vt,q.vu,q.vn])∧q.e=leE (ps.map r) kn sf p.e∧repK.own w' q∧(repK.foot q).Nodup∧(∀k∈repK.foot q,w.heap.size≤k)∧Below w.heap.size w w':=by
 have hz:=z1m h0;have ak:=z50 h0;have aB:Hid (∀w,instK.At w v ps→_):=fun w h=>z90 v ps w h hl hz.1
 have an:Hid (kn<(decN (ps.map r):Int)→∀w,instK.At w v ps→_):=fun hk w h=>q3q v ps (kn+1) w h hl hz.1 ⟨by have:=hz.2.1;omega,by omega⟩
 have aj:Hid (∀qs:List TxnQ,qs.map f=defL (ps.map r) (kn+1).toNat→p.done.length≤qs.length):=fun qs hq=>by
  have e:=congrArg List.length (hq.trans ak);rw[Va,List.length_append]at e;have:p.e.done.length=p.done.length:=by show(p.done.map f).length=_;rw[Va]
  omega
 have ah:Hid (∀qs:List TxnQ,qs.map f=defL (ps.map r) (kn+1).toNat→(qs.map f).drop p.done.length=morL (ps.map r) kn p.e):=fun qs hq=>by
  have:p.done.length=p.e.done.length:=by show _=(p.done.map f).length;rw[Va]
  rw[hq,ak,this,List.drop_left]
 have af:Hid (kn<(decN (ps.map r):Int)→∀qs:List TxnQ,qs.map f=defL (ps.map r) (kn+1).toNat→qs.length+nmL TxnQ.n qs≤1048576):=fun hk qs hq=>q5C (hq.trans (ak.trans (z7Q h0 hk).2.1.symm)) hl
 have HC:Hid (dlC p.e (morL (ps.map r) kn p.e)=0∧lstF (morL (ps.map r) kn p.e)=0∧repF p.e=0):=⟨z7P h0,q3n hz.1,hz.2.2.2.1⟩
 have ax:∀ (v':Value) (rs:List TxnQ) (hr:rs.map f=morL (ps.map r) kn p.e) w (B:Blk w b 35 #[H Q x0,H Q x1,H Q kn,H Q sf,p.vd,p.vb,p.vt,p.vu,p.vn]) (h1:repK.own w p) (h2:txnK.At w v' rs) (h3:∀q∈rs,z3q q) (h4:z1L v') (h5:rs.length+nmL TxnQ.n rs≤1048576),Calls P 115 #[.pointer (some ⟨b,4,none⟩),v'] w fun e w'=>∃q9:RepQ,e=.returned (.agg #[H Q 0,H Q (dlA p.e (morL (ps.map r) kn p.e)),H Q 0,q9.vd,q9.vb,q9.vt,q9.vu,q9.vn])∧q9.e=dlE p.e (morL (ps.map r) kn p.e)∧repK.own w' q9∧(repK.foot q9).Nodup∧(∀k∈repK.foot q9,w.heap.size≤k)∧Below w.heap.size w w':=fun v' rs hr w B h1 h2 h3 h4 h5=>by
  have:=z93 x0 x1 kn sf b p v' rs w B h1 h2 h3 h4 aJ h5 HC.out.2.2 (by rw[hr];exact HC.out.2.1);rw[hr,HC.out.1]at this;exact this
 have ap:Hid (¬kn<(decN (ps.map r):Int)→_):=fun h1=>le_n h0 h1
 have ar:Hid (kn<(decN (ps.map r):Int)→_):=fun h1=>q7i h0 h1
 have ai:Hid (0≤kn∧(kn<(decN (ps.map r):Int)→kn≤4)):=⟨hz.2.1.1,fun hk=>(z7Q h0 hk).2.2.2⟩
 have Z:=fun(w':World) (hb:Below w.heap.size w w')=>repK.own_out (F:=[]) (w':=w') hp (Vb hb) (fun _ _=>by simp)
 clear hz ak HC hp aJ h0;generalize dlA p.e (morL (ps.map r) kn p.e)=AA at*;generalize dlE p.e (morL (ps.map r) kn p.e)=EE at*;generalize morL (ps.map r) kn p.e=ML at*;generalize leC (ps.map r) kn sf p.e=LC at*;generalize leA (ps.map r) kn sf p.e=LA at*;generalize leK (ps.map r) kn sf p.e=LK at*;generalize leS (ps.map r) kn sf p.e=LS at*;generalize leE (ps.map r) kn sf p.e=LE at*;generalize defL (ps.map r) (kn+1).toNat=DL at*;generalize (decN (ps.map r):Int)=M at*;obtain⟨vd,done,vb,base,vt,aO,vu,az,vn,aV⟩:=p;obtain⟨a0,k0,rfl⟩:∃a c,vd=G a done.length c:=(Z w (Below.refl _ _)).1.shape;obtain⟨a1,k1,rfl⟩:∃a c,vb=G a base.length c:=(Z w (Below.refl _ _)).2.1.shape;obtain⟨a2,k2,rfl⟩:∃a c,vt=G a aO.length c:=(Z w (Below.refl _ _)).2.2.1.shape;obtain⟨a3,k3,rfl⟩:∃a c,vu=G a az.length c:=(Z w (Below.refl _ _)).2.2.2.1.shape;obtain⟨a4,k4,rfl⟩:∃a c,vn=G a aV.length c:=(Z w (Below.refl _ _)).2.2.2.2.shape;obtain⟨va,vc,rfl⟩:=h.shape;dsimp only at ax Z aj ah hB;have ao:Hid _:=ax;have aq:Hid _:=Z;have HH:Hid (instK.At w (G va ps.length vc) ps):=h;clear ax Z h;have b0:Below w.heap.size w (w.alloc (.cells #[H Q 0,H Q 0,H Q 0,H Q 0,G none 0 0,G none 0 0,G none 0 0,G none 0 0,G none 0 0] 35)):=by go_grown
 have Bg:=hB.below b0;have Rb:=Blk.new w 35 #[H Q 0,H Q 0,H Q 0,H Q 0,G none 0 0,G none 0 0,G none 0 0,G none 0 0,G none 0 0];have bb:=hB.lt;clear hB;go_enter func66,ntmps66
 go_wp2_with fail
 generalize w.alloc (.cells #[H Q 0,H Q 0,H Q 0,H Q 0,G none 0 0,G none 0 0,G none 0 0,G none 0 0,G none 0 0] 35)=W at*;have ba:=Rb.lt;have hW:Below W.heap.size W W.drew:=(Below.refl _ _).drew;have ag:Nonempty (Lat W):=⟨⟨W,Below.refl _ _⟩⟩
 have k0:=Bg.lat 2 _ rfl;have k1:=Bg.lat 3 _ rfl;have k2:=Bg.lat 4 _ rfl;have k3:=Bg.lat 5 _ rfl;have k4:=Bg.lat 6 _ rfl;have k5:=Bg.lat 7 _ rfl;have k6:=Bg.lat 8 _ rfl;refine z0a (S:=fun w'=>∃u:Lat W,w'=u.val) (by kernel_rfl) ?_;refine sgr [(0,5)] 2 (by kernel_rfl) ⟨⟨_,hW⟩,rfl⟩ ?_;simp only[pkE];repeat go_big_quiet_step (fail)
 refine wpQuiet_nil ?_;refine cla 5 (some 12) 72 #[G va ps.length vc] 1 (by kernel_rfl) ?_;refine(aB.out _ (HH.out.below (b0.trans (hW.mono b0.size)))).mono ?_;rintro e w9 ⟨rfl,aI⟩;replace hW:=hW.trans (aI.mono hW.size);clear aI;refine⟨_,rfl,⟨⟨_,hW⟩,rfl⟩,?_⟩;simp only[Act.put,pjE];refine sgr [(6,1)] 0 (by kernel_rfl) ⟨⟨_,hW⟩,rfl⟩ ?_;simp only[pkE];repeat go_big_quiet_step (fail)
 refine wpQuiet_nil ?_;refine z0e (by kernel_rfl) ?_;clear k0 k1 k2 k3 k4 k5 k6;replace Rb:=Rb.below hW;replace Bg:=Bg.below hW;replace b0:=b0.trans (hW.mono b0.size);clear ag hW aB;by_cases hk:kn<M
 case neg=>
  have HS:Hid _:=ap.out (by omega);have ab:decide (M≤kn)=true:=decide_eq_true (by omega);have ad:decide (kn≥M)=true:=decide_eq_true (by omega);first|rw[ad]|rw[ab]|simp only[ab,ad]
  clear ap ar an aj ah af ao aq HH ai hk Bg
  go_wp2_with fail
  refine(z6O 4 w9).mono ?_;rintro e w2 ⟨rfl,hb⟩;replace Rb:=Rb.below hb;replace b0:=b0.trans (hb.mono b0.size);clear hb;have Rr:=Rb.row #[H Q 4,H Q 0,H Q 0,H Q 0,G none 0 0,G none 0 0,G none 0 0,G none 0 0,G none 0 0];have aP:=z0j b0 (g:=w.heap.size) (by omega) #[H Q 4,H Q 0,H Q 0,H Q 0,G none 0 0,G none 0 0,G none 0 0,G none 0 0,G none 0 0];have ay:(P.info? 35).map (·.size)=some (#[H Q 4,H Q 0,H Q 0,H Q 0,G none 0 0,G none 0 0,G none 0 0,G none 0 0,G none 0 0]:Array Value).size:=by kernel_rfl
  go_wp2_with (refine z0s (by kernel_rfl) 35 _ _ rfl _ #[H Q 4,H Q 0,H Q 0,H Q 0,G none 0 0,G none 0 0,G none 0 0,G none 0 0,G none 0 0] rfl rfl 35 _ Rb ay rfl (by simp[Value.oneCell']) ?_)
  obtain⟨r0,r1,r2,r3,r4,r5,r6,r7,r8⟩:=Rr.cel9;obtain⟨aN,am⟩:=z1l (w2.setRow (w.heap.size) #[H Q 4,H Q 0,H Q 0,H Q 0,G none 0 0,G none 0 0,G none 0 0,G none 0 0,G none 0 0]);exact bodyPost_ret (v:=.agg #[H Q 4,H Q 0,H Q 0,H Q 0,G none 0 0,G none 0 0,G none 0 0,G none 0 0,G none 0 0]) (by simp[results,results66,go_sem,r0,r1,r2,r3,r4,r5,r6,r7,r8]) rfl ⟨q3y,by rw[HS.out.1,HS.out.2.1,HS.out.2.2.1,HS.out.2.2.2.1];rfl,by rw[HS.out.2.2.2.2];rfl,aN,by rw[am];simp,by rw[am];simp,aP⟩
 have HS:Hid _:=ar.out hk;have ab:decide (M≤kn)=false:=decide_eq_false (by omega);have ad:decide (kn≥M)=false:=decide_eq_false (by omega);have bc:=ai.out.1;have bd:=ai.out.2 hk;have al:Hid _:=an.out hk;replace af:Hid _:=af.out hk;first|rw[ad]|rw[ab]|simp only[ab,ad]
 clear ap ar ai hk an;have p0:=Bg.cell 2 _ rfl;have p1:=Bg.cell 3 _ rfl;have p2:=Bg.cell 4 _ rfl;have p3:=Bg.cell 5 _ rfl;have p4:=Bg.cell 6 _ rfl;have p5:=Bg.cell 7 _ rfl;have p6:=Bg.cell 8 _ rfl
 go_wp2_with fail
 clear p0 p1 p2 p3 p4 p5 p6;clear ab ad;refine(al.out w9 (HH.out.below b0)).mono ?_;rintro e w2 ⟨vq,qs,rfl,eq,oq,_,_,hb⟩;replace Rb:=Rb.below hb;replace Bg:=Bg.below hb;replace b0:=b0.trans (hb.mono b0.size);clear hb al;obtain⟨xa,xc,rfl⟩:=oq.shape;have aw:=oq.capK;have aL:qs.length=done.length+(qs.drop done.length).length:=by rw[List.length_drop];have:=aj.out qs eq;omega
 obtain⟨rs,ae⟩:∃l,l=qs.drop done.length:=⟨_,rfl⟩
 rw[←ae]at aL;obtain⟨ra,rc,aM,aG,aH⟩:∃ra rc,(∀u:Lat w2,(Instr.sliceAt 25 (G xa qs.length xc) (some (H Q (done.length:Int))) none none).run P u.val=.ok (G ra rs.length rc) u.val)∧(∀w',txnK.At w' (G xa qs.length xc) qs→txnK.At w' (G ra rs.length rc) rs)∧z1L (G ra rs.length rc):=by
  refine⟨_,_,fun u=>?_,fun w' h=>by rw[ae];exact h.dropS done.length (by omega) aw.1 (xc-done.length),?_⟩
  ·rw[run_sliceAt_slice u.val 25 _ _ _ _ (by kernel_rfl),run_slice_l u.val 25 xa qs.length xc (by kernel_rfl) .i64 (done.length:Int) (by omega) (by omega),show rs.length=qs.length-done.length from by omega];rfl
  ·exact⟨by omega,by have:=aw.2;omega⟩
 have aQ:rs.map f=ML:=by rw[ae,List.map_drop];exact ah.out qs eq
 have aS:rs.length+nmL TxnQ.n rs≤1048576:=by rw[ae];have:=z6F qs done.length;have:=af.out qs eq;omega
 have aC:Hid (∀q∈rs,z3q q):=fun q hq=>z5a (oq.2 q (List.mem_of_mem_drop (ae▸hq)))
 have aA:Hid (∀w',Below w2.heap.size w2 w'→txnK.At w' (G ra rs.length rc) rs):=fun w' hb=>aG w' (oq.at.below hb)
 have aE:Hid _:=aH;clear aL aw aG aH ae oq eq;have be:=b0.size
 go_wp2_with fail
 have hW:Below w2.heap.size w2 w2.drew:=(Below.refl _ _).drew;have ag:Nonempty (Lat w2):=⟨⟨w2,Below.refl _ _⟩⟩
 have k0:=Bg.lat 2 _ rfl;have k1:=Bg.lat 3 _ rfl;have k2:=Bg.lat 4 _ rfl;have k3:=Bg.lat 5 _ rfl;have k4:=Bg.lat 6 _ rfl;have k5:=Bg.lat 7 _ rfl;have k6:=Bg.lat 8 _ rfl;refine z0a (S:=fun w'=>∃u:Lat w2,w'=u.val) (by kernel_rfl) ?_;refine sgr [(0,9)] 5 (by kernel_rfl) ⟨⟨_,hW⟩,rfl⟩ ?_;simp only[pkE];repeat go_big_quiet_step (fail)
 refine wpQuiet_nil ?_;refine qta 9 (some 31) (H Q (done.length:Int)) 4 (by kernel_rfl) (fun u _=>by kernel_rfl) ⟨⟨_,hW⟩,rfl⟩ ?_;simp only[Act.put,pjE];refine qta 10 (some 32) (G ra rs.length rc) 3 (by kernel_rfl) (fun u hu=>?_) ⟨⟨_,hW⟩,rfl⟩ ?_
 ·obtain⟨u,rfl⟩:=hu;refine Eq.trans (b:=some (((Instr.sliceAt 25 (G xa qs.length xc) (some (H Q (done.length:Int))) none none)>>=fun x=>pure (Next.value x):Sem Next).run P u.val)) (by kernel_rfl) ?_;rw[Sem.run_bind,aM u];rfl
 simp only[Act.put,pjE];clear k0 k1 k2 k3 k4 k5 k6;generalize w2.drew=x at hW⊢;refine twa 11 12 2 (by kernel_rfl) ?_ ?_
 rotate_left
 focus
  refine z00 12 _ rfl ?_;have Bz:=Blk.new x 95 #[H Q 0,H Q 0,H Q 0,G none 0 0,G none 0 0,G none 0 0,G none 0 0,G none 0 0];have aU:w2.heap.size≤x.heap.size:=hW.size;have aa:Below x.heap.size x (x.alloc (.cells #[H Q 0,H Q 0,H Q 0,G none 0 0,G none 0 0,G none 0 0,G none 0 0,G none 0 0] 95)):=by go_grown
  replace hW:=hW.trans (aa.mono hW.size);clear aa
  go_wp2
  refine ThenGo.to ⟨⟨⟨_,hW⟩,rfl⟩,?_⟩;generalize av:x.heap.size=gz at*;clear av;generalize x.alloc (.cells #[H Q 0,H Q 0,H Q 0,G none 0 0,G none 0 0,G none 0 0,G none 0 0,G none 0 0] 95)=x at*
 all_goals first|refine cla 11 (some 33) 115 #[.pointer (some ⟨b,4,none⟩),G ra rs.length rc] 1 (by kernel_rfl) ?_|refine opc 11 (some 33) 115 #[.pointer (some ⟨b,4,none⟩),G ra rs.length rc] (by kernel_rfl) ?_
 all_goals
  refine(ao.out _ rs aQ x (Bg.below hW) (aq.out x (b0.trans (hW.mono b0.size))) (aA.out x hW) aC.out aE.out aS).mono ?_;rintro e x ⟨q9,rfl,e9,o9,n9,g9,hb⟩;have aF:∀k∈repK.foot q9,w2.heap.size≤k:=fun k hk=>by have:=g9 k hk;have:=hW.size;omega
  try have au:∀k∈repK.foot q9,k≠gz:=fun k hk=>by have:=g9 k hk;have:=Bz.lt;omega
  have aD:Hid (q9.e=EE∧(repK.foot q9).Nodup):=⟨e9,n9⟩
  clear e9 n9;obtain⟨aX,A,aW,z,aZ,C,a6,d,aY,D⟩:=q9;obtain⟨E,O,rfl⟩:∃a c,aX=G a A.length c:=o9.1.shape;obtain⟨I,T,rfl⟩:∃a c,aW=G a z.length c:=o9.2.1.shape;obtain⟨J,U,rfl⟩:∃a c,aZ=G a C.length c:=o9.2.2.1.shape;obtain⟨L,V,rfl⟩:∃a c,a6=G a d.length c:=o9.2.2.2.1.shape;obtain⟨N,X,rfl⟩:∃a c,aY=G a D.length c:=o9.2.2.2.2.shape;dsimp only;try replace Bz:=Bz.below hb
  replace hW:=hW.trans (hb.mono hW.size);clear hb g9;refine⟨_,rfl,⟨⟨_,hW⟩,rfl⟩,?_⟩;simp only[Act.put,pgE,pjE]
 rotate_right
 focus
  refine ona 12 1 rfl (by kernel_rfl) ?_;have Bz:=Blk.new x 95 #[H Q 0,H Q 0,H Q 0,G none 0 0,G none 0 0,G none 0 0,G none 0 0,G none 0 0];have aU:w2.heap.size≤x.heap.size:=hW.size;have aa:Below x.heap.size x (x.alloc (.cells #[H Q 0,H Q 0,H Q 0,G none 0 0,G none 0 0,G none 0 0,G none 0 0,G none 0 0] 95)):=by go_grown
  have au:∀k∈repK.foot (⟨G E A.length O,A,G I z.length T,z,G J C.length U,C,G L d.length V,d,G N D.length X,D⟩:RepQ),k≠x.heap.size:=fun k hk=>by have:=repK.own_lt o9 k hk;omega
  replace o9:=repK.own_out (F:=[]) o9 (Vb aa) (fun _ _=>by simp);replace hW:=hW.trans (aa.mono hW.size);clear aa
  go_wp2
  refine ThenGo.to ⟨⟨⟨_,hW⟩,rfl⟩,?_⟩;generalize av:x.heap.size=gz at*;clear av;generalize x.alloc (.cells #[H Q 0,H Q 0,H Q 0,G none 0 0,G none 0 0,G none 0 0,G none 0 0,G none 0 0] 95)=x at*
 all_goals
  refine ona 13 0 rfl (by kernel_rfl) ?_;have aR:w2.heap.size≤gz:=by omega
  have Rz:=Bz.row #[H Q 0,H Q AA,H Q 0,G E A.length O,G I z.length T,G J C.length U,G L d.length V,G N D.length X];have oz:=repK.own_out o9 (z0R _ gz #[H Q 0,H Q AA,H Q 0,G E A.length O,G I z.length T,G J C.length U,G L d.length V,G N D.length X]) (fun k hk=>by simp only[List.mem_singleton];exact au k hk);replace hW:=z0j hW aR #[H Q 0,H Q AA,H Q 0,G E A.length O,G I z.length T,G J C.length U,G L d.length V,G N D.length X];have aT:(P.info? 95).map (·.size)=some (#[H Q 0,H Q AA,H Q 0,G E A.length O,G I z.length T,G J C.length U,G L d.length V,G N D.length X]:Array Value).size:=by kernel_rfl
  refine z0s (by kernel_rfl) 95 _ _ rfl _ #[H Q 0,H Q AA,H Q 0,G E A.length O,G I z.length T,G J C.length U,G L d.length V,G N D.length X] rfl rfl 95 _ Bz aT rfl (by simp[Value.oneCell']) ?_;refine ThenGo.to ⟨⟨⟨_,hW⟩,rfl⟩,?_⟩;refine z0e (by kernel_rfl) ?_;have Y:=Bg.below hW;have R4:=Rb.below hW;have b4:=b0.trans (hW.mono b0.size);have a8:=Y.lt;have bf:=b4.size;have a7:=Rb.lt;have aK:Hid (∀k∈repK.foot (⟨G E A.length O,A,G I z.length T,z,G J C.length U,C,G L d.length V,d,G N D.length X,D⟩:RepQ),w.heap.size<k):=fun k hk=>by have:=aF k hk;omega
  clear Bz au aF hW o9 ao aq aA aC aE HH aj ah af Bg Rb b0 aM ag;generalize x.setRow gz #[H Q 0,H Q AA,H Q 0,G E A.length O,G I z.length T,G J C.length U,G L d.length V,G N D.length X]=y at*;obtain⟨t0,t1,t2,t3,t4,t5,t6,t7⟩:=Rz.cel8
  go_wp2_with fail
  clear t0 t1 t2 t3 t4 t5 t6 t7;have hW:Below y.heap.size y y.drew:=(Below.refl _ _).drew;have ag:Nonempty (Lat y):=⟨⟨y,Below.refl _ _⟩⟩
  obtain⟨t0,t1,t2,t3,t4,t5,t6,t7⟩:=Rz.lts8;have c0:=Y.lat 2 _ rfl;have c1:=Y.lat 3 _ rfl;have c2:=Y.lat 4 _ rfl;have c3:=Y.lat 5 _ rfl;have c4:=Y.lat 6 _ rfl;have c5:=Y.lat 7 _ rfl;have c6:=Y.lat 8 _ rfl;refine z5o (S:=fun w'=>∃u:Lat y,w'=u.val) (R:=fun _ _=>False) 15 (by kernel_rfl) (fun _ _ _ _ h=>h.elim) ?_;refine sgX [(0,15)] 1 (by kernel_rfl) ⟨⟨_,hW⟩,rfl⟩ ?_;simp only[pkE];repeat go_big_quiet_step (fail)
  refine wpQuiet_nil ?_;clear t0 t1 t2 t3 t4 t5 t6 t7;clear c0 c1 c2 c3 c4 c5 c6;refine onX 15 0 rfl (by kernel_rfl) ?_;replace R4:=R4.below hW;replace oz:=repK.own_out (F:=[]) oz (Vb hW) (fun _ _=>by simp);replace b4:=b4.trans (hW.mono b4.size);have Rr:=R4.row #[H Q 0,H Q AA,H Q (kn+1),H Q sf,G E A.length O,G I z.length T,G J C.length U,G L d.length V,G N D.length X];have U5:=z0R y.drew w.heap.size #[H Q 0,H Q AA,H Q (kn+1),H Q sf,G E A.length O,G I z.length T,G J C.length U,G L d.length V,G N D.length X];have O5:=repK.own_out oz U5 (fun k hk=>by have:=aK.out k hk;simp;omega);have b5:=Out.keep b4 U5 b4.size (fun k hk=>by simp at hk;omega);have ay:(P.info? 35).map (·.size)=some (#[H Q 0,H Q AA,H Q (kn+1),H Q sf,G E A.length O,G I z.length T,G J C.length U,G L d.length V,G N D.length X]:Array Value).size:=by kernel_rfl
  clear hW ag;refine z0s (by kernel_rfl) 35 _ _ rfl _ #[H Q 0,H Q AA,H Q (kn+1),H Q sf,G E A.length O,G I z.length T,G J C.length U,G L d.length V,G N D.length X] rfl rfl 35 _ R4 ay rfl (by simp[Value.oneCell']) ?_;refine ThenX.to ⟨Or.inl (by kernel_rfl),?_⟩;refine q44 (by kernel_rfl) ?_;clear R4 oz b4 U5;obtain⟨r0,r1,r2,r3,r4,r5,r6,r7,r8⟩:=Rr.cel9
  go_wp2
  exact bodyPost_ret (v:=.agg #[H Q 0,H Q AA,H Q (kn+1),H Q sf,G E A.length O,G I z.length T,G J C.length U,G L d.length V,G N D.length X]) (by simp[results,results66,go_sem,r0,r1,r2,r3,r4,r5,r6,r7,r8]) rfl ⟨_,by rw[HS.out.1,HS.out.2.1,HS.out.2.2.1,HS.out.2.2.2.1],by rw[HS.out.2.2.2.2];exact aD.out.1,O5,aD.out.2,fun k hk=>by have:=aK.out k hk;omega,b5⟩
def cuE(ds:List InstE):Nat→Int→RepE→RepE
 |0,_,x=>x
 |m+1,kn,x=>cuE ds m (kn+1) (dlE x (morL ds kn x))
def cuN(ds:List InstE)(kn:Int):Nat:=((decN ds:Int)-kn).toNat
def CuI(ds:List InstE)(sf:Int)(F:RepE)(k:Int)(x:RepE):Prop:=nodF ds k sf x=0∧cuE ds (cuN ds k) k x=F
theorem z51{ds:List InstE}{sf kn:Int}{x:RepE}(h:nodF ds kn sf x=0):CuI ds sf (cuE ds (cuN ds kn) kn x) kn x:=⟨h,rfl⟩
theorem z7S{ds:List InstE}{sf k:Int}{F x:RepE}(h:CuI ds sf F k x)(hk:k<(decN ds:Int)):CuI ds sf F (k+1) (dlE x (morL ds k x)):=by
 refine⟨q4o h.1 hk,?_⟩;have e:cuN ds k=cuN ds (k+1)+1:=by unfold cuN;omega
 have h2:=h.2;rw[e]at h2;exact h2
theorem q3u{ds:List InstE}{sf k:Int}{F x:RepE}(h:CuI ds sf F k x):0≤k∧k≤(decN ds:Int)∧(decN ds:Int)≤4:=by
 obtain⟨h0,h1,_⟩:=z1m h.1;have h5:decN ds≤ds.length:=by unfold decN;split<;>omega
 have h6:=((z2n ds).1 h0).1.2;omega
theorem z94{ds:List InstE}{sf k:Int}{F x:RepE}(h:CuI ds sf F k x)(hk:¬k<(decN ds:Int)):x=F∧k=(decN ds:Int):=by
 have h1:=q3u h;have e:cuN ds k=0:=by unfold cuN;omega
 have h2:=h.2;rw[e]at h2;exact⟨h2,by omega⟩
theorem q5Z{ds:List InstE}{kn sf:Int}{q:RepQ}(h:nodF ds kn sf q.e=0):q.n≤1048576:=by
 obtain⟨_,_,_,h3,_⟩:=z1m h;obtain⟨_,_,_,h4,h5,_,_,_,_,h6,h7⟩:=z3Z h3;have:=z7I (q4L h3).symm h4 h5 (by omega) (by omega);omega
def cuC(ds:List InstE)(kn sf:Int)(x:RepE):Int:=nodF ds kn sf x
def cuA(ds:List InstE)(kn sf:Int)(x:RepE):Int:=if nodF ds kn sf x=0 then(decN ds:Int)-kn else 0
def cuK(ds:List InstE)(kn sf:Int)(x:RepE):Int:=if nodF ds kn sf x=0 then(decN ds:Int)else 0
def cuS(ds:List InstE)(kn sf:Int)(x:RepE):Int:=if nodF ds kn sf x=0 then sf else 0
def cuX(ds:List InstE)(kn sf:Int)(x:RepE):RepE:=if nodF ds kn sf x=0 then cuE ds (cuN ds kn) kn x else⟨[],[],[],[],[]⟩
theorem q69{ds:List InstE}{kn sf:Int}{x:RepE}(h:nodF ds kn sf x≠0):cuC ds kn sf x=nodF ds kn sf x∧cuA ds kn sf x=0∧cuK ds kn sf x=0∧cuS ds kn sf x=0∧cuX ds kn sf x=⟨[],[],[],[],[]⟩:=⟨rfl,if_neg h,if_neg h,if_neg h,if_neg h⟩
theorem q7a{ds:List InstE}{kn sf:Int}{x:RepE}(h:nodF ds kn sf x=0):cuC ds kn sf x=0∧cuA ds kn sf x=(decN ds:Int)-kn∧cuK ds kn sf x=(decN ds:Int)∧cuS ds kn sf x=sf∧cuX ds kn sf x=cuE ds (cuN ds kn) kn x:=⟨h,if_pos h,if_pos h,if_pos h,if_pos h⟩
end Go.Proofs.YtlkpdgjnhkjpjaaGreatDoor

import Derived.Test.YtlkpdgjnhkjpjaaGreatDoorSYBP
set_option linter.unusedVariables false
set_option linter.unusedSimpArgs false
set_option maxRecDepth 100000
set_option maxHeartbeats 16000000
namespace Go.Proofs.YtlkpdgjnhkjpjaaGreatDoor
open Go.RowKit Go.BigFrame
open TxnQ renaming e->R
open Out renaming of_below->H
open IntKind renaming i64->G
open Value renaming int->Q,slice->D
open Go.Proofs.Tryz
theorem q5R(aN aP:Int)(b1:Nat)(p:RepQ)(vf:Value)(fs:List TxnQ)(w:World)(hB:Blk w b1 31 #[Q G aN,Q G aP,p.vd,p.vb,p.vt,p.vu,p.vn])(h:repK.own w p)(hT:txnK.At w vf fs)(aX:∀q∈fs,z4f q)(aW:z2F vf)(hl:p.n≤1048576)(aI:fs.length+nmL TxnQ.n fs≤1048576)(h0:repF p.e=0)(h1:lstF (fs.map R)=0):
  Calls Tryz.prog 115 #[.pointer (some ⟨b1,2,none⟩),vf] w fun e w'=>∃q:RepQ,e=.returned (.agg #[Q G (dlC p.e (fs.map R)),Q G (dlA p.e (fs.map R)),Q G 0,q.vd,q.vb,q.vt,q.vu,q.vn])∧q.e=dlE p.e (fs.map R)∧repK.own w' q∧(repK.foot q).Nodup∧(∀k∈repK.foot q,w.heap.size≤k)∧Below w.heap.size w w':=by
 have d:=z7T p.e (fs.map R);rw[h0,h1]at d;have aB:∀c,dlC p.e (fs.map R)=c→c≠0→dlC p.e (fs.map R)=c∧dlA p.e (fs.map R)=0∧dlE p.e (fs.map R)=⟨[],[],[],[],[]⟩:=fun c e h=>⟨e,by rw[dlA,if_neg (by rw[e];exact h)],by rw[dlE,if_neg (by rw[e];exact h)]⟩
 have A:Hid _:=aB;clear aB;have HE:Hid (dlC p.e (fs.map R)=0→dlA p.e (fs.map R)=plB (p.tent.map R) (fs.map R)∧dlE p.e (fs.map R)=mkR ((p.done++fs).map R) (plK (p.tent.map R) (fs.map R))∧bthF (p.tent.map R) (fs.map R)=0∧(∀t∈plK (p.tent.map R) (fs.map R),t.F=0)∧(plK (p.tent.map R) (fs.map R)).length≤8):=fun e=>by
  obtain⟨z0,z1,z2,z3,z4,z5,z6,z7⟩:=z7U e;exact⟨if_pos e,by rw[dlE,if_pos e,List.map_append];rfl,z4,z6,z7⟩
 have hz:=z1D h0;have ha:=((z09 _).1 hz.2.1).2.1;have am:=((z09 _).1 h1)
 have ar:Hid (∀q∈p.done,(R q).F=0):=fun q hq=>ha _ (List.mem_append_left _ (List.mem_map.2 ⟨q,hq,rfl⟩))
 have aS:Hid (∀q∈fs,(R q).F=0):=fun q hq=>am.2.1 _ (List.mem_map.2 ⟨q,hq,rfl⟩)
 have aJ:p.done.length≤16:=by have:=hz.1.1;simpa[RepQ.e]using this
 have bq:fs.length≤40:=by have:=am.1;simpa using this
 have aH:∀w' va,txnK.At w' p.vd p.done→∀b o (x:TxnD),Box4 w' b o (Q G x.id) (Q G x.session) (Q G x.seq) va→Calls Tryz.prog 174 #[p.vd,.pointer (some ⟨b,o,none⟩)] w' fun e bo=>e=.returned (.bool (knw (p.done.map R) x))∧Below w'.heap.size w' bo:=fun w' va hA b o x hB=>z1A p.vd p.done b o x va w' hA hB (by omega)
 have aD:frK p.e.done (fs.map R)=frK (p.done.map R) (fs.map R):=rfl;have aC:p.e.done.length=p.done.length:=by simp[RepQ.e]
 rw[aD,aC,List.length_map]at d;have hr:=fun(w':World) (hb:Below w.heap.size w w')=>repK.own_out (F:=[]) (w':=w') h (H hb) (fun _ _=>by simp)
 have aq:=fun(w':World) (hb:Below w.heap.size w w')=>hT.below hb
 have ae:Hid ((∀q∈fs,z4f q)∧∀q∈p.done,z4f q):=⟨aX,fun q hq=>z3i (h.1.2 q hq)⟩
 have ab:Hid (z2F p.vt∧z2F vf):=⟨h.2.2.1.capOk,aW⟩
 have aL:p.tent.length+nmL TxnQ.n p.tent≤1048576:=by dsimp only[RepQ.n]at hl;omega
 have aK:p.done.length+nmL TxnQ.n p.done≤1048576:=by dsimp only[RepQ.n]at hl;omega
 have ao:=fun w' hA hB hC=>q1w p.vt vf p.tent fs w' hA hB ab.out.1 ab.out.2 aL aI hC
 have ad:Hid ((∀j,j<fs.length→knw (p.done.map R) ((fs.map R).getD j z00)=false)→frK (p.done.map R) (fs.map R)=false):=fun hh=>q4F (fun j hj=>hh j (by simpa using hj))
 have T:Hid (∀k (hk:k<fs.length),knw (p.done.map R) (R fs[k])=true→frK (p.done.map R) (fs.map R)=true):=fun k hk hx=>q3k (t:=R fs[k]) (List.mem_map.2 ⟨fs[k],List.getElem_mem hk,rfl⟩) hx
 obtain⟨fa,fk,rfl⟩:=hT.shape;generalize dlA p.e (fs.map R)=AA at*;generalize dlE p.e (fs.map R)=RE at*;generalize dlC p.e (fs.map R)=C at*;generalize frK (p.done.map R) (fs.map R)=FK at*;clear hz ha am aD aC ab;obtain⟨bf,pd,be,pb,bh,pt,bi,pu,bg,pn⟩:=p;obtain⟨p0,p5,rfl⟩:∃a c,bf=D a pd.length c:=h.1.shape;obtain⟨p1,p6,rfl⟩:∃a c,be=D a pb.length c:=h.2.1.shape;obtain⟨p2,p7,rfl⟩:∃a c,bh=D a pt.length c:=h.2.2.1.shape;obtain⟨p3,p8,rfl⟩:∃a c,bi=D a pu.length c:=h.2.2.2.1.shape;obtain⟨p4,p9,rfl⟩:∃a c,bg=D a pn.length c:=h.2.2.2.2.shape;dsimp only at d HE ar aJ aH hr ae aL aK ao ad T;have b0:Below w.heap.size w (w.alloc (.cells #[Q G 0,Q G 0,Q G 0,D none 0 0,D none 0 0,D none 0 0,D none 0 0,D none 0 0] 95)):=by go_grown
 have RB:=Blk.new w 95 #[Q G 0,Q G 0,Q G 0,D none 0 0,D none 0 0,D none 0 0,D none 0 0,D none 0 0];have bp:=hB.lt;go_enter func115,ntmps115
 go_wp2_with fail
 generalize w.alloc (.cells #[Q G 0,Q G 0,Q G 0,D none 0 0,D none 0 0,D none 0 0,D none 0 0,D none 0 0] 95)=W at*;go_loopw[5] (fun j wr=>∃k:Nat,k≤fs.length∧j=Q G k∧Below w.heap.size w wr∧Blk wr w.heap.size 95 #[Q G 0,Q G 0,Q G 0,D none 0 0,D none 0 0,D none 0 0,D none 0 0,D none 0 0]∧Hid (∀j,j<k→knw (pd.map R) ((fs.map R).getD j z00)=false)) (fun j _=>fs.length-(intOf j).toNat)
 case atStart=>exact⟨0,Nat.zero_le _,rfl,b0,RB,fun j hj=>absurd hj (Nat.not_lt_zero _)⟩
 case round=>
  clear b0 RB;obtain⟨k,hk,rfl,b0,RB,HA⟩:=hrel;have BA:=hB.below b0;by_cases M:k<fs.length
  ·obtain⟨b',X,aY,bx,hc,a8⟩:=(aq wr b0).cell (by decide) k M;subst aY;have J:∀j x,(txnK.cells fs[k])[j]?=some x→wr.cell? ⟨b',X+k*4+j,none⟩=some x:=hc;have ay:Box4 wr b' (X+k*4) (Q G fs[k].i) (Q G fs[k].s) (Q G fs[k].q) fs[k].va:=⟨by simpa using J 0 _ rfl,J 1 _ rfl,J 2 _ rfl,J 3 _ rfl⟩
   have HY:Hid (knw (pd.map R) (R fs[k])=true→FK=true):=fun hx=>T.out k M hx
   have HN:Hid (knw (pd.map R) (R fs[k])=false→∀j,j<k+1→knw (pd.map R) ((fs.map R).getD j z00)=false):=fun hx j hj=>by
    by_cases aZ:j=k
    ·subst aZ;rw[z1x fs j M];exact hx
    ·exact HA.out j (by omega)
   clear HA hc J T;generalize fs[k]=p at*;have hW:Below wr.heap.size wr wr.drew:=(Below.refl _ _).drew;have a7:Nonempty (Lat wr):=⟨⟨wr,Below.refl _ _⟩⟩
   have f0:=BA.lat 2 _ rfl;have Z:(k:Int)<(fs.length:Int):=by omega
   have hq:=aH wr.drew p.va ((hr wr b0).1.at.below hW) b' (X+k*4) (R p) (ay.below hW);generalize knw (pd.map R) (R p)=S at*
   go_wp2_with fail
   refine z0b (S:=fun w'=>∃u:Lat wr,w'=u.val) (by kernel_rfl) ?_;refine sgr [(0,7)] 1 (by kernel_rfl) ⟨⟨_,hW⟩,rfl⟩ ?_;simp only[pkE];repeat go_big_quiet_step (fail)
   refine wpQuiet_nil ?_;clear f0;refine cla 7 (some 20) 174 #[D p0 pd.length p5,.pointer (some ⟨b',X+k*4,none⟩)] 0 (by kernel_rfl) ?_;refine hq.mono ?_;rintro e w2 ⟨rfl,hb⟩;replace hW:=hW.trans (hb.mono hW.size);clear hb hq;refine⟨_,rfl,⟨⟨_,hW⟩,rfl⟩,?_⟩;simp only[Act.put,pgE,pjE];refine z0e (by kernel_rfl) ?_;replace RB:=RB.below hW;replace b0:=z0i b0 hW;clear hW a7 ay BA a8
   cases S with
   |true=>
    have y:FK=true:=HY.out rfl;subst y;have HZ:Hid (C=6∧AA=0∧RE=⟨[],[],[],[],[]⟩):=by
     rcases d with⟨a,_⟩|⟨_,a,_⟩|⟨_,_,_,b⟩|⟨_,_,a,_⟩|⟨_,_,a,_⟩
     ·exact absurd rfl a
     ·exact absurd rfl a
     ·exact A.out 6 b (by decide)
     ·cases a
     ·cases a
    clear HY HN d HE A;have L:=fun w=>z2j 6 w
    go_wp2_with fail
    refine(L _).mono ?_;rintro e wb ⟨rfl,hb⟩;replace b0:=z0i b0 hb;replace RB:=RB.below hb;clear hb L;have Rr:=RB.row #[Q G 6,Q G 0,Q G 0,D none 0 0,D none 0 0,D none 0 0,D none 0 0,D none 0 0];have ak:=z0j (g:=w.heap.size) b0 (by omega) #[Q G 6,Q G 0,Q G 0,D none 0 0,D none 0 0,D none 0 0,D none 0 0,D none 0 0]
    go_wp2_with (first|(refine z0r (by kernel_rfl) 95 _ _ rfl _ #[Q G 6,Q G 0,Q G 0,D none 0 0,D none 0 0,D none 0 0,D none 0 0,D none 0 0] rfl rfl 95 _ RB z4C rfl (by simp[Value.oneCell']) ?_))
    obtain⟨z0,z1,z2,z3,z4,z5,z6,z7⟩:=Rr.cel8;first|done|skip
    exact bodyPost_ret (v:=.agg #[Q G 6,Q G 0,Q G 0,D none 0 0,D none 0 0,D none 0 0,D none 0 0,D none 0 0]) (by simp[results,results115,go_sem,z0,z1,z2,z3,z4,z5,z6,z7]) rfl ⟨q0t,by rw[HZ.out.1,HZ.out.2.1];rfl,HZ.out.2.2.symm,(z0u _).1,by rw[(z0u w).2];simp,by rw[(z0u w).2];simp,ak⟩
   |false=>
    have aT:Hid _:=HN.out rfl;clear HY HN
    go_wp2
    go_roundw
    case rel=>exact⟨k+1,by omega,by go_num,b0,RB,aT⟩
    case measure=>simp[intOf];omega
  ·have a6:k=fs.length:=by omega
   subst a6;have y:FK=false:=ad.out HA.out;subst y;have Z:¬((fs.length:Int)<(fs.length:Int)):=by omega
   clear HA ad T;have d0:=BA.cell 2 _ rfl;by_cases ax:16<pd.length+fs.length
   ·have HZ:Hid (C=7∧AA=0∧RE=⟨[],[],[],[],[]⟩):=by
     rcases d with⟨a,_⟩|⟨_,a,_⟩|⟨_,_,a,_⟩|⟨_,_,_,_,b⟩|⟨_,_,_,a,_⟩
     ·exact absurd rfl a
     ·exact absurd rfl a
     ·cases a
     ·exact A.out 7 b (by decide)
     ·exact absurd ax a
    have aw:(16:Int)<(pd.length:Int)+(fs.length:Int):=by omega
    clear d HE A;have L:=fun w=>z2j 7 w
    go_wp2_with fail
    refine(L _).mono ?_;rintro e wb ⟨rfl,hb⟩;replace b0:=z0i b0 hb;replace RB:=RB.below hb;clear hb L;have Rr:=RB.row #[Q G 7,Q G 0,Q G 0,D none 0 0,D none 0 0,D none 0 0,D none 0 0,D none 0 0];have ak:=z0j (g:=w.heap.size) b0 (by omega) #[Q G 7,Q G 0,Q G 0,D none 0 0,D none 0 0,D none 0 0,D none 0 0,D none 0 0]
    go_wp2_with (first|(refine z0r (by kernel_rfl) 95 _ _ rfl _ #[Q G 7,Q G 0,Q G 0,D none 0 0,D none 0 0,D none 0 0,D none 0 0,D none 0 0] rfl rfl 95 _ RB z4C rfl (by simp[Value.oneCell']) ?_))
    obtain⟨z0,z1,z2,z3,z4,z5,z6,z7⟩:=Rr.cel8;first|done|skip
    exact bodyPost_ret (v:=.agg #[Q G 7,Q G 0,Q G 0,D none 0 0,D none 0 0,D none 0 0,D none 0 0,D none 0 0]) (by simp[results,results115,go_sem,z0,z1,z2,z3,z4,z5,z6,z7]) rfl ⟨q0t,by rw[HZ.out.1,HZ.out.2.1];rfl,HZ.out.2.2.symm,(z0u _).1,by rw[(z0u w).2];simp,by rw[(z0u w).2];simp,ak⟩
   ·have aa:C=0:=by
     rcases d with⟨a,_⟩|⟨_,a,_⟩|⟨_,_,a,_⟩|⟨_,_,_,a,_⟩|⟨_,_,_,_,b⟩
     ·exact absurd rfl a
     ·exact absurd rfl a
     ·cases a
     ·exact absurd a ax
     ·exact b
    have aw:¬(16:Int)<(pd.length:Int)+(fs.length:Int):=by omega
    obtain⟨eA,eE,az,y,al⟩:=HE.out aa;clear d HE A;have d2:=BA.cell 4 _ rfl
    go_wp2_with fail
    clear d0 d2 aw Z;refine(ao wr (hr wr b0).2.2.1.at (aq wr b0) az).mono ?_;rintro e w4 ⟨v1,v2,q1,kq,rfl,e1,e2,o1,U,bd,aU,hb⟩;obtain⟨ag,ah,aE⟩:=o1.shape;generalize aF:q1.length=ai at aE;subst aE;obtain⟨ka,kc,rfl⟩:=U.shape;replace BA:=BA.below hb;replace RB:=RB.below hb;replace b0:=z0i b0 hb;clear hb ao bd aU o1 e1 aF;have aR:Hid (∀q∈kq,(R q).F=0):=fun q hq=>y _ (by rw[←e2];exact List.mem_map.2 ⟨q,hq,rfl⟩)
    have bz:kq.length≤8:=by rw[←e2,List.length_map]at al;exact al
    have z:Hid (C=0∧AA=_∧RE=mkR ((pd++fs).map R) (kq.map R)):=⟨aa,eA,by rw[e2];exact eE⟩
    clear y al eA eE e2 az aa;generalize plN (pt.map R) (fs.map R)=PN at*;generalize plB (pt.map R) (fs.map R)=PB at*;have I:Below w4.heap.size w4 (w4.alloc (.cells #[Q G 0,Q G PN,Q G PB,D ag ai ah,D ka kq.length kc] 216)):=by go_grown
    have BP:=Blk.new w4 216 #[Q G 0,Q G PN,Q G PB,D ag ai ah,D ka kq.length kc];have br:w4.heap.size≠w.heap.size:=by have:=RB.lt;omega
    replace BA:=BA.below I;replace RB:=RB.below I;replace b0:=z0i b0 I;replace U:=U.below I;clear I
    go_wp2_with fail
    generalize w4.alloc (.cells #[Q G 0,Q G PN,Q G PB,D ag ai ah,D ka kq.length kc] 216)=Y at*;generalize w4.heap.size=gp at*;have hW:Below Y.heap.size Y Y.drew:=(Below.refl _ _).drew;have c2:=z0s (F:=[w.heap.size]) (BP.cell 2 _ rfl) (by simp;omega);have c4:=z0s (F:=[w.heap.size]) (BP.cell 4 _ rfl) (by simp;omega);have e0:=z0s (F:=[w.heap.size]) (BA.cell 2 _ rfl) (by simp;omega);have bA:Nonempty (KeepP (Out [w.heap.size] Y)):=⟨⟨Y,Out.refl _ _⟩⟩
    have hO:Out [w.heap.size] Y Y.drew:=H hW;obtain⟨i0,hi,ba,bb,bc⟩:=info_parts z1e;refine z0b (S:=fun w'=>∃u:KeepP (Out [w.heap.size] Y),w'=u.val) (by kernel_rfl) ?_;refine sgr [(0,6),(7,1),(10,2)] 6 (by kernel_rfl) ⟨⟨_,hO⟩,rfl⟩ ?_;simp only[pkE];repeat go_big_quiet_step (fail)
    refine wpQuiet_nil ?_;clear c2 c4 e0;have N:=b0.trans (hW.mono b0.size);refine cla 6 (some 44) 170 #[D p0 pd.length p5] 5 (by kernel_rfl) ?_;refine(z1m (D p0 pd.length p5) pd _ (hr _ N).1.at ae.out.2 aK).mono ?_;rintro e x1 ⟨v1,q1,rfl,e1,o1,n1,g1,hb⟩;have ND:Hid (∀k,∀q∈q1,k∈txnK.foot q→k∉blk v1):=fun k q hq hk hb=>(List.nodup_append.1 n1).2.2 k hb k (List.mem_flatMap.2 ⟨q,hq,hk⟩) rfl
    have bw:Y.heap.size≤Y.drew.heap.size:=hW.size;replace hW:=hW.trans (hb.mono hW.size);clear hb n1 N;replace hO:Out [w.heap.size] Y x1:=H hW;obtain⟨a1,k1,rfl⟩:=o1.shape;refine⟨_,rfl,⟨⟨_,hO⟩,rfl⟩,?_⟩;simp only[Act.put,pgE,pjE];have N:=b0.trans (hW.mono b0.size);have i1:=o1.lt;refine cla 8 (some 46) 170 #[D fa fs.length fk] 4 (by kernel_rfl) ?_;refine(z1m (D fa fs.length fk) fs _ (aq _ N) ae.out.1 aI).mono ?_;rintro e x2 ⟨v2,q2,rfl,e2,o2,_,g2,hb⟩;obtain⟨a2,k2,rfl⟩:=o2.shape;replace o1:=o1.below hb;have bs:=hb.size;have bt:=hW.size;replace hW:=hW.trans (hb.mono hW.size);clear hb N;replace hO:Out [w.heap.size] Y x2:=H hW;refine⟨_,rfl,⟨⟨_,hO⟩,rfl⟩,?_⟩;simp only[Act.put,pgE,pjE];have l1:q1.length=pd.length:=by simpa using congrArg List.length e1
    have l2:q2.length=fs.length:=by simpa using congrArg List.length e2
    obtain⟨_,_,ee,O,aO⟩:=o2.at;simp only[Value.slice.injEq,true_and]at ee;obtain⟨rfl,rfl⟩:=ee;have w1:q1.length+q2.length≤maxLen:=by unfold maxLen;omega
    have w2:(q1.length+q2.length)*48≤140737488355328:=by omega
    have au:Hid ((q1++q2).length≤40):=show _≤_ by rw[List.length_append];omega
    clear l1 l2;refine ona 9 3 rfl (by kernel_rfl) ?_;refine z1h (K:=txnK) _ rfl _ _ 25 rfl i0 (.agg #[Q G 0,Q G 0,Q G 0,D none 0 0]) 48 Tryz.underlying25 hi ba bb bc rfl (by decide) 0 _ q1 rfl o1.1 _ q2 _ rfl O (z5p aO) (o2.niceV _ _ _ rfl) w1 w2 (by omega) ?_;intro v3 x3 aM aG;have V:Out (blk (D a1 q1.length k1)) x2 x3:=Out.of_grown aG;have af:∀x∈blk (D a1 q1.length k1),Y.heap.size≤x∧x<x1.heap.size:=fun x hx=>⟨by have:=g1 x (by simp only[Kind.fp,List.mem_append];exact Or.inl hx);omega,i1 x (by simp only[Kind.fp,List.mem_append];exact Or.inl hx)⟩
    have aj:txnK.At x3 v3 (q1 ++ q2):=Kind.at_of_row aM (fun q hq=>by
     rcases List.mem_append.1 hq with hq|hq
     ·exact txnK.own_rd (txnK.own_out (o1.2 q hq) V (fun k hk e=>ND.out k q hq hk e))
     ·exact txnK.own_rd (txnK.own_out (o2.2 q hq) V (fun k hk e=>by
       have:=g2 k (by simp only[Kind.fp,List.mem_append,List.mem_flatMap];exact Or.inr ⟨q,hq,hk⟩);have:=(af k e).2;omega)))
    replace hW:Below Y.heap.size Y x3:=Out.keep hW V hW.size (fun x hx=>(af x hx).1);replace hO:Out [w.heap.size] Y x3:=H hW;obtain⟨a3,k3,rfl⟩:=aj.shape
    go_wp2
    refine ThenGo.to ⟨⟨⟨_,hO⟩,rfl⟩,?_⟩;simp only[Act.put,pgE,pjE];have aA:∀q∈q1++q2,(R q).F=0:=fun q hq=>by
     rcases List.mem_append.1 hq with hq|hq
     ·have:R q∈pd.map R:=by rw[←e1];exact List.mem_map.2 ⟨q,hq,rfl⟩
      obtain⟨q',ap,e'⟩:=List.mem_map.1 this;rw[←e'];exact ar.out q' ap
     ·have:R q∈fs.map R:=by rw[←e2];exact List.mem_map.2 ⟨q,hq,rfl⟩
      obtain⟨q',ap,e'⟩:=List.mem_map.1 this;rw[←e'];exact aS.out q' ap
    have av:Hid ((q1++q2).map R=(pd++fs).map R):=show _=_ by rw[List.map_append,List.map_append,e1,e2]
    have an:=z3h (.slice a3 (q1++q2).length k3) (D ka kq.length kc) (q1++q2) kq x3 aj (U.at.below hW) aA aR.out au.out (by omega);rw[av.out]at an;clear aG V af aM O aO o1 o2 g1 g2 i1 ND aj;refine cla 12 (some 50) 122 #[.slice a3 (q1++q2).length k3,D ka kq.length kc] 2 (by kernel_rfl) ?_;refine an.mono ?_;rintro e w7 ⟨q,rfl,eq,oq,nq,gq,hb⟩;have bv:=hW.size;replace hW:=hW.trans (hb.mono hW.size);have bu:=RB.lt;replace RB:=RB.below hW;have bB:=b0.size;replace hO:Out [w.heap.size] Y w7:=H hW;replace b0:=b0.trans (hW.mono b0.size);have aV:∀k∈repK.foot q,k≠w.heap.size:=fun k hk=>by have:=gq k hk;omega
    have gw:∀k∈repK.foot q,w.heap.size≤k:=fun k hk=>by have:=gq k hk;omega
    clear hb gq an aA;refine⟨_,rfl,⟨⟨_,hO⟩,rfl⟩,?_⟩;simp only[Act.put,pgE,pjE];obtain⟨bk,qd,bj,qb,bm,qt,bn,qu,bl,qn⟩:=q;obtain⟨s0,t0,rfl⟩:∃a c,bk=D a qd.length c:=oq.1.shape;obtain⟨s1,t1,rfl⟩:∃a c,bj=D a qb.length c:=oq.2.1.shape;obtain⟨s2,t2,rfl⟩:∃a c,bm=D a qt.length c:=oq.2.2.1.shape;obtain⟨s3,t3,rfl⟩:∃a c,bn=D a qu.length c:=oq.2.2.2.1.shape;obtain⟨s4,t4,rfl⟩:∃a c,bl=D a qn.length c:=oq.2.2.2.2.shape;have aQ:Hid _:=eq;clear eq;refine sgr [(13,1)] 1 (by kernel_rfl) ⟨⟨_,hO⟩,rfl⟩ ?_;simp only[pkE];repeat go_big_quiet_step (fail)
    refine wpQuiet_nil ?_;refine ona 14 0 rfl (by kernel_rfl) ?_;have Rz:=RB.row #[Q G 0,Q G PB,Q G 0,D s0 qd.length t0,D s1 qb.length t1,D s2 qt.length t2,D s3 qu.length t3,D s4 qn.length t4];have oz:=repK.own_out oq (z0A _ (w.heap.size) #[Q G 0,Q G PB,Q G 0,D s0 qd.length t0,D s1 qb.length t1,D s2 qt.length t2,D s3 qu.length t3,D s4 qn.length t4]) (fun k hk=>by simp only[List.mem_singleton];exact aV k hk);replace hO:Out [w.heap.size] Y _:=hO.trans (z0A w7 (w.heap.size) #[Q G 0,Q G PB,Q G 0,D s0 qd.length t0,D s1 qb.length t1,D s2 qt.length t2,D s3 qu.length t3,D s4 qn.length t4]);replace b0:=z0j (g:=w.heap.size) b0 (by omega) #[Q G 0,Q G PB,Q G 0,D s0 qd.length t0,D s1 qb.length t1,D s2 qt.length t2,D s3 qu.length t3,D s4 qn.length t4];refine z0r (by kernel_rfl) 95 _ _ rfl _ #[Q G 0,Q G PB,Q G 0,D s0 qd.length t0,D s1 qb.length t1,D s2 qt.length t2,D s3 qu.length t3,D s4 qn.length t4] rfl rfl 95 _ RB z4C rfl (by simp[Value.oneCell']) ?_;refine ThenGo.to ⟨⟨⟨_,hO⟩,rfl⟩,?_⟩;refine z0e (by kernel_rfl) ?_;obtain⟨z0,z1,z2,z3,z4,z5,z6,z7⟩:=Rz.cel8
    go_wp2
    exact bodyPost_ret (v:=.agg #[Q G 0,Q G PB,Q G 0,D s0 qd.length t0,D s1 qb.length t1,D s2 qt.length t2,D s3 qu.length t3,D s4 qn.length t4]) (by simp[results,results115,go_sem,z0,z1,z2,z3,z4,z5,z6,z7]) rfl ⟨(⟨D s0 qd.length t0,qd,D s1 qb.length t1,qb,D s2 qt.length t2,qt,D s3 qu.length t3,qu,D s4 qn.length t4,qn⟩:RepQ),by rw[z.out.1,z.out.2.1],aQ.out.trans z.out.2.2.symm,oz,nq,gw,b0⟩
end Go.Proofs.YtlkpdgjnhkjpjaaGreatDoor

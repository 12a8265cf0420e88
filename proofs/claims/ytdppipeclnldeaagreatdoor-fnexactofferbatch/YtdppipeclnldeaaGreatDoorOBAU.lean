import Derived.Test.YtdppipeclnldeaaGreatDoorOBAT
set_option linter.unusedVariables false
set_option linter.unusedSimpArgs false
set_option maxRecDepth 100000
set_option maxHeartbeats 16000000
namespace Go.Proofs.YtdppipeclnldeaaGreatDoor
open Go.RowKit Go.BigFrame
open TxnQ renaming e->H,n->B
open List renaming mem_append_right->P,mem_append_left->s,mem_singleton->i,getElem_mem->Va
open Blk renaming new->l
open Act renaming put->f
open Out renaming of_below->Vb,setCell->Vc
open IntKind renaming i64->G
open Value renaming int->Q,slice->K
open Go.Proofs.Tryz renaming prog->R
open Go.Proofs.Tryz
theorem q0V(b x o m k:Nat)(v:Value)(w:World)(hB:Blk w b 30 #[K (some ⟨x,o,none⟩) (m+1) k,v])(hn:m≤1048576):
  Calls R 24 #[.pointer (some ⟨b,0,none⟩)] w fun e w'=>e=.returned (.pointer (some ⟨x,o+m*4,none⟩))∧Below w.heap.size w w':=by
 have c0:=hB.lat 0 _ rfl;have hsz4:R.cellsOf 64=4:=by kernel_rfl
 go_enter func24,ntmps24
 go_wp2_with fail
 have hW:Below w.heap.size w w.drew:=(Below.refl _ _).drew;have hnn:Nonempty (Lat w):=⟨⟨w,Below.refl _ _⟩⟩
 refine z0b (S:=fun w'=>∃u:Lat w,w'=u.val) (by kernel_rfl) ?_;refine sgr [(0,8)] 4 (by kernel_rfl) ⟨⟨_,hW⟩,rfl⟩ ?_;simp only[pkE];repeat go_big_quiet_step (fail)
 refine wpQuiet_nil ?_;refine qta 8 (some 11) (Q G ((m+1:Nat):Int)) 3 (by kernel_rfl) (fun u _=>by kernel_rfl) ⟨⟨_,hW⟩,rfl⟩ ?_;simp only[f,pgE,pjE];have hsub:((m+1:Nat):Int)-1=(m:Int):=by omega
 refine sgr [(9,3)] 0 (by kernel_rfl) ⟨⟨_,hW⟩,rfl⟩ ?_;simp only[pkE];repeat go_big_quiet_step (fail)
 refine wpQuiet_nil ?_;refine z0g (by kernel_rfl) ?_
 go_wp2
 go_ret;exact⟨rfl,hW⟩
theorem z4j(p:CluQ)(mo:Int)(w:World)(hG:Rul w)(hT:ErrT w)(h:cluK.own w p)(hl:p.n≤1048576):
  Calls R 7 #[.agg #[p.vo,p.vm],Q G mo] w fun e w'=>∃q:CluQ,e=.returned (.agg #[Q G (ofC p.e mo),Q G (ofA p.e mo),q.vo,q.vm])∧q.e=ofE p.e mo∧cluK.own w' q∧(cluK.foot q).Nodup∧(∀k∈cluK.foot q,w.heap.size≤k)∧Below w.heap.size w w':=by
 have bH:=fun w hG hT h=>z6G p w hG hT h hl
 have bJ:=fun(w':World) (hb:Below w.heap.size w w')=>cluK.own_out (F:=[]) (w':=w') h (Vb hb) (fun _ _=>by simp)
 have bs:cluF p.e≠0→ofC p.e mo=cluF p.e∧ofA p.e mo=0∧ofE p.e mo=⟨[],[]⟩:=fun h1=>q3A h1
 have bK:cluF p.e=0→¬(1≤mo∧mo≤4)→ofC p.e mo=3∧ofA p.e mo=0∧ofE p.e mo=⟨[],[]⟩:=fun hz h1=>q3B hz h1
 have bD:cluF p.e=0→(1≤mo∧mo≤4)→ofT p.e=[]→ofC p.e mo=4∧ofA p.e mo=0∧ofE p.e mo=⟨[],[]⟩:=fun hz h1 h2=>q3C hz h1 h2
 have bL:cluF p.e=0→(1≤mo∧mo≤4)→ofT p.e≠[]→sbC (ofL p.e) (ofB p.e mo)≠0→ofC p.e mo=sbC (ofL p.e) (ofB p.e mo)∧ofA p.e mo=0∧ofE p.e mo=⟨[],[]⟩:=fun hz h1 h2 h3=>q1T (q3D hz h1 h2) h3
 have bG:cluF p.e=0→(1≤mo∧mo≤4)→ofT p.e≠[]→sbC (ofL p.e) (ofB p.e mo)=0→ofC p.e mo=0∧ofA p.e mo=((ofB p.e mo).length:Int)∧ofE p.e mo=⟨p.e.ord.set (p.e.ord.length-1) (sbI (ofL p.e) (ofB p.e mo)),p.e.mem⟩:=fun hz h1 h2 h3=>q5V hz h1 h2 h3
 have bq:cluF p.e=0→∀q:CluQ,q.e=p.e→_:=fun hz q hq=>q3E (p:=q) (by rw[hq];exact hz)
 have bE:∀q:CluQ,q.e=p.e→q.n≤1048576:=fun q hq=>by rw[q5R hq];exact hl
 have bi:ofB p.e mo=(ofT p.e).take mo.toNat:=rfl;generalize ofC p.e mo=D at*;generalize ofA p.e mo=AN at*;generalize ofE p.e mo=E at*;generalize cluF p.e=C at*;clear hl;have aU:Hid _:=bs;have aW:Hid _:=bK;have aC:Hid _:=bD;have aG:Hid _:=bL;have aE:Hid _:=bG;have aA:Hid _:=bq;have aD:Hid _:=bE;have aV:Hid _:=bi;have an:Hid _:=bH;have aF:Hid _:=bJ;clear bs bK bD bL bG bq bE bH bJ bi;have aI:∃pe:CluE,pe=p.e:=⟨_,rfl⟩
 obtain⟨pe,aI⟩:=aI;rw[←aI]at aC aG aE aA aD aV an;clear aI;have h9:=h;obtain⟨vo,ah,vm,ag⟩:=p;obtain⟨a0,k0,rfl⟩:∃a c,vo=K a ah.length c:=h.1.shape;obtain⟨a1,k1,rfl⟩:∃a c,vm=K a ag.length c:=h.2.shape;dsimp only at an aF;clear h9;have b0:Below w.heap.size w ((w.alloc (.cells #[K a0 ah.length k0,K a1 ag.length k1] 30)).alloc (.cells #[Q G 0,Q G 0,K none 0 0,K none 0 0] 32)):=by go_grown
 have A0:=(l w 30 #[K a0 ah.length k0,K a1 ag.length k1]).below (w':=(w.alloc (.cells #[K a0 ah.length k0,K a1 ag.length k1] 30)).alloc (.cells #[Q G 0,Q G 0,K none 0 0,K none 0 0] 32)) (by go_grown);have Rb:=l (w.alloc (.cells #[K a0 ah.length k0,K a1 ag.length k1] 30)) 32 #[Q G 0,Q G 0,K none 0 0,K none 0 0];simp only[World.size_alloc]at Rb;obtain⟨c0,c1⟩:=A0.cel2;go_enter func7,ntmps7
 go_wp2_with fail
 clear c0 c1;generalize (w.alloc (.cells #[K a0 ah.length k0,K a1 ag.length k1] 30)).alloc (.cells #[Q G 0,Q G 0,K none 0 0,K none 0 0] 32)=W at*;refine(an.out W (hG.below b0) (hT.below b0) (aF.out W b0)).mono ?_;rintro e w1 (⟨hC,rfl,hb⟩|⟨hC,g,q,rfl,Bg,eq,oq,nq,gq,bw,hb⟩)
 ·replace Rb:=Rb.below hb;replace b0:=b0.trans (hb.mono b0.size);have bj:(C !=0)=true:=by simpa using hC
  have M:Hid (D=C∧AN=0∧E=⟨[],[]⟩):=aU.out hC;clear aU aW aC aG aE aA aD an aF hC A0 hb aV;have Rr:=Rb.row #[Q G C,Q G 0,K none 0 0,K none 0 0];have U:=z0v (w1) (w.heap.size+1) #[Q G C,Q G 0,K none 0 0,K none 0 0];have b3:=Out.keep b0 U b0.size (fun k hk=>by simp only[i]at hk;omega);have T:(R.info? 32).map (·.size)=some (#[Q G C,Q G 0,K none 0 0,K none 0 0]:Array Value).size:=by kernel_rfl
  go_wp2_with (refine z0s (by kernel_rfl) 32 _ _ rfl _ #[Q G C,Q G 0,K none 0 0,K none 0 0] rfl rfl 32 _ Rb T rfl (by simp[Value.oneCell']) ?_)
  obtain⟨r0,r1,r2,r3⟩:=Rr.cel4;exact bodyPost_ret (v:=.agg #[Q G C,Q G 0,K none 0 0,K none 0 0]) (by simp[results,results7,go_sem,r0,r1,r2,r3]) rfl ⟨q1V,by first|(rw[M.out.1,M.out.2.1];done)|(rw[M.out.1,M.out.2.1];rfl),by first|(rw[M.out.2.2];done)|(rw[M.out.2.2];rfl),(z0y _ 0).1,(z0y w 0).2.1,(z0y w w.heap.size).2.2,b3⟩
 have cv:=b0.size;have cl:=Rb.lt;replace Rb:=Rb.below hb;have cw:=hb.size;replace b0:=b0.trans (hb.mono b0.size);clear hb aU an aF A0;have bj:(C !=0)=false:=by simp[hC]
 have ap:Hid _:=aW.out hC;have aj:Hid _:=aC.out hC;have aq:Hid _:=aG.out hC;have al:Hid _:=aE.out hC;obtain⟨hi,hj,b9,ca,eT,eL,aY,b1⟩:=aA.out hC q eq;have af:=aD.out q eq;have ae:Hid (pe.ord=q.ord.map InstQ.e∧pe.mem=q.mem.map NodeQ.e):=by rw[←eq];exact⟨rfl,rfl⟩
 rw[eq]at eT eL;clear aW aC aG aE aA aD b1 eq hC;obtain⟨wo,d,wm,A⟩:=q;dsimp only at hi hj b9 ca eT eL Bg af ae aY;have cu:d.length+nmL InstQ.n d≤1048576:=by unfold CluQ.n at af;dsimp only at af;omega
 have cq:A.length+nmL NodeQ.n A≤1048576:=by unfold CluQ.n at af;dsimp only at af;omega
 obtain⟨oo,om⟩:instK.Own w1 wo d∧nodeK.Own w1 wm A:=oq;clear af;obtain⟨ya,yc,rfl⟩:=oo.shape;obtain⟨za,zc,rfl⟩:=om.shape;have bS:Hid (∀k∈instK.fp (K ya d.length yc) d,W.heap.size≤k∧k<w1.heap.size∧k≠g):=fun k hk=>⟨(gq k (s _ hk)).1,oo.lt k hk,(gq k (s _ hk)).2⟩
 have bg:Hid ((instK.fp (K ya d.length yc) d).Nodup):=(List.nodup_append.1 nq).1;have bV:Hid ((nodeK.fp (K za A.length zc) A).Nodup):=(List.nodup_append.1 nq).2.1;have be:Hid (∀x∈instK.fp (K ya d.length yc) d,∀y∈nodeK.fp (K za A.length zc) A,x≠y):=fun x hx y hy=>(List.nodup_append.1 nq).2.2 x hx y hy
 have ai:Hid (∀k∈nodeK.fp (K za A.length zc) A,W.heap.size≤k∧k<w1.heap.size∧k≠g):=fun k hk=>⟨(gq k (P _ hk)).1,om.lt k hk,(gq k (P _ hk)).2⟩
 have bT:Hid (W.heap.size≤g∧g<w1.heap.size):=⟨bw,Bg.lt⟩
 clear nq gq bw;have bA:=fun w=>z0G mo 1 4 w
 go_wp2_with fail
 clear bj;refine(bA w1).mono ?_;rintro e w9 ⟨rfl,bd⟩;replace bd:=bd.symm;subst bd;clear bA;by_cases hr:1≤mo∧mo≤4
 case neg=>
  have az:inW mo 1 4=false:=inW_false.2 hr;have M:Hid (D=3∧AN=0∧E=⟨[],[]⟩):=ap.out hr;rw[az];clear ap aj aq al ae oo om hr az;have Rr:=Rb.row #[Q G 3,Q G 0,K none 0 0,K none 0 0];have U:=z0v (w1) (w.heap.size+1) #[Q G 3,Q G 0,K none 0 0,K none 0 0];have b3:=Out.keep b0 U b0.size (fun k hk=>by simp only[i]at hk;omega);have T:(R.info? 32).map (·.size)=some (#[Q G 3,Q G 0,K none 0 0,K none 0 0]:Array Value).size:=by kernel_rfl
  go_wp2_with (refine z0s (by kernel_rfl) 32 _ _ rfl _ #[Q G 3,Q G 0,K none 0 0,K none 0 0] rfl rfl 32 _ Rb T rfl (by simp[Value.oneCell']) ?_)
  obtain⟨r0,r1,r2,r3⟩:=Rr.cel4;exact bodyPost_ret (v:=.agg #[Q G 3,Q G 0,K none 0 0,K none 0 0]) (by simp[results,results7,go_sem,r0,r1,r2,r3]) rfl ⟨q1V,by first|(rw[M.out.1,M.out.2.1];done)|(rw[M.out.1,M.out.2.1];rfl),by first|(rw[M.out.2.2];done)|(rw[M.out.2.2];rfl),(z0y _ 0).1,(z0y w 0).2.1,(z0y w w.heap.size).2.2,b3⟩
 have az:inW mo 1 4=true:=inW_true.2 hr;rw[az];have ak:Hid _:=aj.out hr;have ar:Hid _:=aq.out hr;have am:Hid _:=al.out hr;have HR:Hid (1≤mo∧mo≤4):=hr;clear ap aj aq al hr az;generalize b7:(d.length+2) % 3=ci at*;have aa:=fun w hn=>z73 d.length A.length ya za yc zc w hn
 have bM:((d.length:Int)+2).tmod 3=(ci:Int):=by
  rw[Int.tmod_eq_emod_of_nonneg (by omega)];omega
 rw[bM]at aa;clear bM b7;obtain⟨gm,N,rfl,ct,bC,cb⟩:=om.at.cell (by decide) ci hi;have aN:∀j x,(nodeK.cells A[ci])[j]?=some x→w1.cell? ⟨gm,N+ci*7+j,none⟩=some x:=bC;have t4:=z0a (aN 4 A[ci].vt rfl);have ab:txnK.Own w1 A[ci].vt A[ci].tent:=(om.2 _ (Va hi)).2.2.1;have cC:A[ci].tent.length+nmL B A[ci].tent≤1048576:=by
  have h1:NodeQ.n A[ci]≤nmL NodeQ.n A:=z4i NodeQ.n A _ (Va hi);have h2:A[ci].tent.length+nmL B A[ci].tent≤NodeQ.n A[ci]:=by show _≤RepQ.n _;simp only[RepQ.n,NodeQ.r];omega
  omega
 clear bC aN cb;generalize A[ci].vt=tv at*;generalize A[ci].tent=te at*;obtain⟨ta,tc,rfl⟩:=ab.shape;have bv:(ci:Int)<(A.length:Int):=by omega
 go_wp2_with fail
 obtain⟨g0,g1⟩:=Bg.lts2;have hW:Below w1.heap.size w1 w1.drew:=(Below.refl _ _).drew;have bb:Nonempty (Lat w1):=⟨⟨w1,Below.refl _ _⟩⟩
 refine z0b (S:=fun w'=>∃u:Lat w1,w'=u.val) (by kernel_rfl) ?_;refine sgr [(0,7)] 6 (by kernel_rfl) ⟨⟨_,hW⟩,rfl⟩ ?_;simp only[pkE];repeat go_big_quiet_step (fail)
 refine wpQuiet_nil ?_;refine cla 7 (some 30) 22 #[.agg #[K ya d.length yc,K (some ⟨gm,N,none⟩) A.length zc]] 5 (by kernel_rfl) ?_;refine(aa _ (by omega)).mono ?_;rintro e w2 ⟨rfl,au⟩;replace hW:=hW.trans (au.mono hW.size);clear au;refine⟨_,rfl,⟨⟨_,hW⟩,rfl⟩,?_⟩;simp only[f,pgE,pjE];refine sgr [(8,5)] 0 (by kernel_rfl) ⟨⟨_,hW⟩,rfl⟩ ?_;simp only[pkE];repeat go_big_quiet_step (fail)
 refine wpQuiet_nil ?_;refine z0g (by kernel_rfl) ?_;clear bb g0 g1 t4 aa bv;replace Rb:=Rb.below hW;replace Bg:=Bg.below hW;replace oo:=oo.below hW;replace om:=om.below hW;replace ab:=ab.below hW;replace b0:=b0.trans (hW.mono b0.size);have cx:=hW.size;clear hW;by_cases aJ:te.length=0
 case pos=>
  have aT:(te.length:Int)=0:=by omega
  have aO:ofT pe=[]:=by rw[eT,List.length_eq_zero_iff.1 aJ];rfl
  have M:Hid (D=4∧AN=0∧E=⟨[],[]⟩):=ak.out aO;have hz:((te.length:Int)==0)=true:=by simpa using aT
  clear ak ar am ae oo om ab eT aO aJ aT;have Rr:=Rb.row #[Q G 4,Q G 0,K none 0 0,K none 0 0];have U:=z0v (w2) (w.heap.size+1) #[Q G 4,Q G 0,K none 0 0,K none 0 0];have b3:=Out.keep b0 U b0.size (fun k hk=>by simp only[i]at hk;omega);have T:(R.info? 32).map (·.size)=some (#[Q G 4,Q G 0,K none 0 0,K none 0 0]:Array Value).size:=by kernel_rfl
  go_wp2_with (refine z0s (by kernel_rfl) 32 _ _ rfl _ #[Q G 4,Q G 0,K none 0 0,K none 0 0] rfl rfl 32 _ Rb T rfl (by simp[Value.oneCell']) ?_)
  obtain⟨r0,r1,r2,r3⟩:=Rr.cel4;exact bodyPost_ret (v:=.agg #[Q G 4,Q G 0,K none 0 0,K none 0 0]) (by simp[results,results7,go_sem,r0,r1,r2,r3]) rfl ⟨q1V,by first|(rw[M.out.1,M.out.2.1];done)|(rw[M.out.1,M.out.2.1];rfl),by first|(rw[M.out.2.2];done)|(rw[M.out.2.2];rfl),(z0y _ 0).1,(z0y w 0).2.1,(z0y w w.heap.size).2.2,b3⟩
 have hz:((te.length:Int)==0)=false:=by
  have:¬(te.length:Int)=0:=by omega
  simpa using this
 have ax:ofT pe≠[]:=by
  rw[eT];intro h9;have:=congrArg List.length h9;simp at this;exact aJ (by rw[this];rfl)
 have ad:Hid _:=ar.out ax;have V:Hid _:=am.out ax;obtain⟨bl,bt⟩:∃bl:Nat,bl=min mo.toNat te.length:=⟨_,rfl⟩
 have cd:=HR.out;have cj:min mo (te.length:Int)=(bl:Int):=by omega
 have bu:bl≤te.length:=by omega
 have cg:bl≤4:=by omega
 have hB:ofB pe mo=(te.take bl).map H:=by
  rw[aV.out,eT,←List.map_take,bt]
  congr 1
  rw[List.take_eq_take_iff];omega
 rw[hB]at ad V;have aL:((te.take bl).map H).length=bl:=by simp;omega
 rw[aL]at V;have av:=z7N ab.1;have bp:txnK.At w2 (K ta bl tc) (te.take bl):=ab.at.takeK bl bu;have b4:(te.take bl).length+nmL B (te.take bl)≤1048576:=by
  have:=q0U B te bl;omega
 have cB:(te.take bl).length=bl:=by simp;omega
 clear ak ar am ax aJ bt hB aL cd eT ab;obtain⟨m,hm⟩:∃m:Nat,d.length=m+1:=⟨d.length-1,by omega⟩
 have ba:d.length-1=m:=by omega
 simp only[ba]at hj eL aY;have O:Blk w2 g 30 #[K ya (m+1) yc,K (some ⟨gm,N,none⟩) A.length zc]:=by rw[←hm];exact Bg
 obtain⟨go,cf,rfl,ay,bF,cc⟩:=oo.at.cell (by decide) m (by omega);obtain⟨z,aw⟩:=oo.blkOf (by omega);obtain⟨rfl,rfl⟩:z=go∧cf=0:=by simp only[Option.some.injEq,Addr.mk.injEq]at aw;exact⟨aw.1.symm,aw.2.1⟩
 clear aw;have bR:Hid (∀k∈nodeK.fp (K (some ⟨gm,N,none⟩) A.length zc) A,W.heap.size≤k∧k<w1.heap.size∧k≠g∧k≠z):=fun k hk=>⟨(ai.out k hk).1,(ai.out k hk).2.1,(ai.out k hk).2.2,fun e=>be.out z (by simp[Kind.fp,blk,Value.ownBlock]) k hk e.symm⟩
 have Y:∀j x,(instK.cells d[m])[j]?=some x→w2.cell? ⟨z,0+m*4+j,none⟩=some x:=bF;have i0:=Y 0 (.bool d[m].has) rfl;have i1:=Y 1 d[m].vb rfl;have i2:=Y 2 d[m].vr rfl;have i3:=Y 3 d[m].vd rfl;simp only[Nat.zero_add,Nat.add_zero]at i0 i1 i2 i3;have bz:=(oo.2 _ (Va (show m<d.length by omega)))
 have bx:InstQ.n d[m]≤1048576:=by have:=z4i InstQ.n d d[m] (Va (show m<d.length by omega));omega
 have aS:=z48 d[m] (K ta bl tc) (te.take bl);have bc:=fun w hG h hT=>aS w hG h bx hT b4
 clear aS;have bm:sbC (InstQ.e d[m]) ((te.take bl).map H)=sbC (ofL pe) ((te.take bl).map H):=by rw[eL]
 have bk:sbI (InstQ.e d[m]) ((te.take bl).map H)=sbI (ofL pe) ((te.take bl).map H):=by rw[eL]
 rw[bm,bk]at bc;clear bm bk eL bF Y cc bx aY;generalize sbC (ofL pe) ((te.take bl).map H)=SC at*;generalize sbI (ofL pe) ((te.take bl).map H)=SI at*;have aX:Hid _:=bc;have bf:Hid _:=bz;have bh:Hid _:=bp;have cs:m<d.length:=by omega
 have bU:Hid (d.length-1=m):=ba;clear bc bz bp hm ba;have cr:(if(te.length:Int)<mo then(te.length:Int)else mo)=(bl:Int):=by split<;>omega
 have cm:¬((bl:Int)<0):=by omega
 have a6:te.length≤tc∧tc≤maxLen:=av;have cn:(bl:Int)≤(tc:Int):=by omega
 clear a6 av
 go_wp2_with fail
 refine(q0V g z 0 m yc _ w2 O (by omega)).mono ?_;rintro e w3 ⟨rfl,hb⟩;simp only[Nat.zero_add];have j0:=(hb.cell (p:=⟨z,m*4,none⟩) ay).trans i0;have j1:=(hb.cell (p:=⟨z,m*4+1,none⟩) ay).trans i1;have j2:=(hb.cell (p:=⟨z,m*4+2,none⟩) ay).trans i2;have j3:=(hb.cell (p:=⟨z,m*4+3,none⟩) ay).trans i3;have aK:txnK.At w3 (K ta bl tc) (te.take bl):=Kind.At.below bh.out hb;have X:=instK.own_out (F:=[]) bf.out (Vb hb) (fun _ _=>by simp);have cy:=hb.size;replace Rb:=Rb.below hb;replace Bg:=Bg.below hb;replace O:=O.below hb;replace oo:=oo.below hb;replace om:=om.below hb;replace b0:=b0.trans (hb.mono b0.size);clear hb i0 i1 i2 i3 bf bh;generalize bI:d[m]=pi at*;have ao:Hid (d[m]=pi):=bI;clear bI;obtain⟨Ih,Ib,bW,Ir,bY,Id,bX⟩:=pi;obtain⟨I1,I4,rfl⟩:∃a c,Ib=K a bW.length c:=X.1.shape;obtain⟨I2,I5,rfl⟩:∃a c,Ir=K a bY.length c:=X.2.1.shape;obtain⟨I3,I6,rfl⟩:∃a c,Id=K a bX.length c:=X.2.2.shape;dsimp only at j0 j1 j2 j3 aX
 go_wp2_with fail
 clear j0 j1 j2 j3;refine(aX.out w3 (hG.below b0) (instK.own_rd X) aK).mono ?_;rintro e w4 ⟨qi,rfl,ei,oi,ni,gi,hb⟩;have cz:=hb.size;replace Rb:=Rb.below hb;replace Bg:=Bg.below hb;replace O:=O.below hb;replace oo:=oo.below hb;replace om:=om.below hb;replace b0:=b0.trans (hb.mono b0.size);have li:=instK.own_lt oi;clear hb aX aK X;obtain⟨Jh,Jb,I,Jr,L,Jd,J⟩:=qi;obtain⟨J1,J4,rfl⟩:∃a c,Jb=K a I.length c:=oi.1.shape;obtain⟨J2,J5,rfl⟩:∃a c,Jr=K a L.length c:=oi.2.1.shape;obtain⟨J3,J6,rfl⟩:∃a c,Jd=K a J.length c:=oi.2.2.shape;simp only[q50];have Br:=l w4 66 #[Q G SC,Q G 0,.bool false,.bool false,Q G 0,.bool Jh,K J1 I.length J4,K J2 L.length J5,K J3 J.length J6];have hX:Below w4.heap.size w4 (w4.alloc (.cells #[Q G SC,Q G 0,.bool false,.bool false,Q G 0,.bool Jh,K J1 I.length J4,K J2 L.length J5,K J3 J.length J6] 66)):=by go_grown
 replace oi:=instK.own_out (F:=[]) oi (Vb hX) (fun _ _=>by simp);replace Rb:=Rb.below hX;replace Bg:=Bg.below hX;replace O:=O.below hX;replace oo:=oo.below hX;replace om:=om.below hX;replace b0:=b0.trans (hX.mono b0.size);have cA:=hX.size;have ck:=Br.lt;have d0:=Br.cell 0 _ rfl;by_cases hS:SC=0
 case neg=>
  have b2:(SC !=0)=true:=by simpa using hS
  have M:Hid (D=SC∧AN=0∧E=⟨[],[]⟩):=ad.out hS;clear ad V hS ae oo om oi li gi ni ei ao;have Rr:=Rb.row #[Q G SC,Q G 0,K none 0 0,K none 0 0];have U:=z0v (w4.alloc (.cells #[Q G SC,Q G 0,.bool false,.bool false,Q G 0,.bool Jh,K J1 I.length J4,K J2 L.length J5,K J3 J.length J6] 66)) (w.heap.size+1) #[Q G SC,Q G 0,K none 0 0,K none 0 0];have b3:=Out.keep b0 U b0.size (fun k hk=>by simp only[i]at hk;omega);have T:(R.info? 32).map (·.size)=some (#[Q G SC,Q G 0,K none 0 0,K none 0 0]:Array Value).size:=by kernel_rfl
  go_wp2_with (refine z0s (by kernel_rfl) 32 _ _ rfl _ #[Q G SC,Q G 0,K none 0 0,K none 0 0] rfl rfl 32 _ Rb T rfl (by simp[Value.oneCell']) ?_)
  obtain⟨r0,r1,r2,r3⟩:=Rr.cel4;exact bodyPost_ret (v:=.agg #[Q G SC,Q G 0,K none 0 0,K none 0 0]) (by simp[results,results7,go_sem,r0,r1,r2,r3]) rfl ⟨q1V,by first|(rw[M.out.1,M.out.2.1];done)|(rw[M.out.1,M.out.2.1];rfl),by first|(rw[M.out.2.2];done)|(rw[M.out.2.2];rfl),(z0y _ 0).1,(z0y w 0).2.1,(z0y w w.heap.size).2.2,b3⟩
 subst hS;have b2:((0:Int) !=0)=false:=by decide
 have M:Hid _:=V.out rfl;clear ad V;have d5:=Br.cell 5 _ rfl;have d6:=Br.cell 6 _ rfl;have d7:=Br.cell 7 _ rfl;have d8:=Br.cell 8 _ rfl
 go_wp2_with fail
 clear d0 d5 d6 d7 d8;generalize w4.alloc (.cells #[Q G 0,Q G 0,.bool false,.bool false,Q G 0,.bool Jh,K J1 I.length J4,K J2 L.length J5,K J3 J.length J6] 66)=W5 at*;generalize w4.heap.size=gr at*;have aw:=ay;have a8:∀k∈instK.fp (K (some ⟨z,0,none⟩) d.length yc) d,W.heap.size≤k∧k<w1.heap.size∧k≠g:=bS.out;have a7:∀k∈nodeK.fp (K (some ⟨gm,N,none⟩) A.length zc) A,W.heap.size≤k∧k<w1.heap.size∧k≠g∧k≠z:=bR.out;have co:W.heap.size≤g∧g<w1.heap.size:=bT.out;have ch:W.heap.size≤z∧z<w1.heap.size∧z≠g:=a8 z (by simp[Kind.fp,blk,Value.ownBlock]);have cp:w1.heap.size≤gr:=by omega
 have g0:=z0k (F:=[z]) (Bg.cell 0 _ rfl) (by simp only[i];omega);have g1:=z0k (F:=[z]) (Bg.cell 1 _ rfl) (by simp only[i];omega);have q0:=z0k (F:=[z]) (Br.cell 0 _ rfl) (by simp only[i];omega);have q5:=z0k (F:=[z]) (Br.cell 5 _ rfl) (by simp only[i];omega);have q6:=z0k (F:=[z]) (Br.cell 6 _ rfl) (by simp only[i];omega);have q7:=z0k (F:=[z]) (Br.cell 7 _ rfl) (by simp only[i];omega);have q8:=z0k (F:=[z]) (Br.cell 8 _ rfl) (by simp only[i];omega);have hW:Below W5.heap.size W5 W5.drew:=(Below.refl _ _).drew;have bb:Nonempty (LatO [z] W5):=⟨⟨W5,Out.refl _ _⟩⟩
 have aH:∀w',Below W5.heap.size W5 w'→∃u:LatO [z] W5,w'=u.val:=fun w' ce=>⟨⟨w',Vb ce⟩,rfl⟩
 refine z0b (S:=fun w'=>∃u:LatO [z] W5,w'=u.val) (by kernel_rfl) ?_;refine sgr [(0,1),(2,2)] 3 (by kernel_rfl) (aH _ hW) ?_;simp only[pkE];repeat go_big_quiet_step (fail)
 refine wpQuiet_nil ?_;refine cla 1 (some 58) 24 #[.pointer (some ⟨g,0,none⟩)] 2 (by kernel_rfl) ?_;refine(q0V g z 0 m yc _ _ (O.below hW) (by omega)).mono ?_;rintro e x5 ⟨rfl,au⟩;replace hW:=hW.trans (au.mono hW.size);clear au;simp only[Nat.zero_add];refine⟨_,rfl,(aH _ hW),?_⟩;simp only[f,pgE,pjE];refine sgr [(4,1)] 1 (by kernel_rfl) (aH _ hW) ?_;simp only[pkE];repeat go_big_quiet_step (fail)
 refine wpQuiet_nil ?_;have o5:=oo.below hW;have m5:=om.below hW;have i5:=instK.own_out (F:=[]) oi (Vb hW) (fun _ _=>by simp);have R5:=Rb.below hW;have G5:=Bg.below hW;have b5:=b0.trans (hW.mono b0.size);obtain⟨e0,f0⟩:=o5.cell m (by omega) 0 _ (by rw[ao.out];rfl);obtain⟨e1,f1⟩:=o5.cell m (by omega) 1 _ (by rw[ao.out];rfl);obtain⟨e2,f2⟩:=o5.cell m (by omega) 2 _ (by rw[ao.out];rfl);obtain⟨e3,f3⟩:=o5.cell m (by omega) 3 _ (by rw[ao.out];rfl);have bB:∀j,m*instK.size+j=m*4+j:=fun j=>rfl
 rw[bB]at e0 f0 e1 f1 e2 f2 e3 f3;rw[Nat.add_zero]at e0 f0;clear bB;have aR:=z1l o5.1 (m*4) [.bool Jh,K J1 I.length J4,K J2 L.length J5,K J3 J.length J6];have Z:Out [z] x5 ((((x5.setCell ⟨z,m*4,none⟩ (.bool Jh)).setCell ⟨z,m*4+1,none⟩ (K J1 I.length J4)).setCell ⟨z,m*4+2,none⟩ (K J2 L.length J5)).setCell ⟨z,m*4+3,none⟩ (K J3 J.length J6)):=(((Vc _ _ _ _).trans (Vc _ _ _ _)).trans (Vc _ _ _ _)).trans (Vc _ _ _ _);have aQ:instK.Own ((((x5.setCell ⟨z,m*4,none⟩ (.bool Jh)).setCell ⟨z,m*4+1,none⟩ (K J1 I.length J4)).setCell ⟨z,m*4+2,none⟩ (K J2 L.length J5)).setCell ⟨z,m*4+3,none⟩ (K J3 J.length J6)) (K (some ⟨z,0,none⟩) d.length yc) (d.set m (⟨Jh,K J1 I.length J4,I,K J2 L.length J5,L,K J3 J.length J6,J⟩:InstQ)):=by
  refine Kind.Own.put o5 m (by omega) (⟨Jh,K J1 I.length J4,I,K J2 L.length J5,L,K J3 J.length J6,J⟩:InstQ) aR Z ?_ i5 ?_
  ·intro q hq x hx bN;have:=List.nodup_cons.1 (show(z::d.flatMap instK.foot).Nodup from bg.out);exact this.1 (List.mem_flatMap.2 ⟨q,hq,bN▸hx⟩)
  ·intro x hx bN;have:=gi x hx;omega
 have aP:(instK.fp (K (some ⟨z,0,none⟩) d.length yc) (d.set m (⟨Jh,K J1 I.length J4,I,K J2 L.length J5,L,K J3 J.length J6,J⟩:InstQ))).Nodup:=z6l bg.out m (by omega) _ ni (fun k hk b8=>by have:=gi k hk;have:=a8 k b8;omega);have m6:=m5.out Z (fun k hk=>by have:=a7 k hk;simp only[i];omega);have R6:=(Z.block _ R5.lt (by simp only[i];omega)).trans R5;have G6:=(Z.block _ G5.lt (by simp only[i];omega)).trans G5;have b6:=Out.keep b5 Z b5.size (fun k hk=>by simp only[i]at hk;omega);have bn:Out [z] W5 ((((x5.setCell ⟨z,m*4,none⟩ (.bool Jh)).setCell ⟨z,m*4+1,none⟩ (K J1 I.length J4)).setCell ⟨z,m*4+2,none⟩ (K J2 L.length J5)).setCell ⟨z,m*4+3,none⟩ (K J3 J.length J6)):=(Vb hW).trans Z;clear o5 m5 i5 R5 G5 b5 aR Z;refine ona 5 0 rfl (by kernel_rfl) ?_
 go_wp2
 refine ThenGo.to ⟨⟨⟨_,bn⟩,rfl⟩,?_⟩;refine z0g (by kernel_rfl) ?_;have H6:Hid (instK.Own ((((x5.setCell ⟨z,m*4,none⟩ (.bool Jh)).setCell ⟨z,m*4+1,none⟩ (K J1 I.length J4)).setCell ⟨z,m*4+2,none⟩ (K J2 L.length J5)).setCell ⟨z,m*4+3,none⟩ (K J3 J.length J6)) (K (some ⟨z,0,none⟩) d.length yc) (d.set m (⟨Jh,K J1 I.length J4,I,K J2 L.length J5,L,K J3 J.length J6,J⟩:InstQ))∧nodeK.Own ((((x5.setCell ⟨z,m*4,none⟩ (.bool Jh)).setCell ⟨z,m*4+1,none⟩ (K J1 I.length J4)).setCell ⟨z,m*4+2,none⟩ (K J2 L.length J5)).setCell ⟨z,m*4+3,none⟩ (K J3 J.length J6)) (K (some ⟨gm,N,none⟩) A.length zc) A):=⟨aQ,m6⟩
 have bo:Blk ((((x5.setCell ⟨z,m*4,none⟩ (.bool Jh)).setCell ⟨z,m*4+1,none⟩ (K J1 I.length J4)).setCell ⟨z,m*4+2,none⟩ (K J2 L.length J5)).setCell ⟨z,m*4+3,none⟩ (K J3 J.length J6)) (w.heap.size+1) 32 #[Q G 0,Q G 0,K none 0 0,K none 0 0]:=R6;have bZ:Blk ((((x5.setCell ⟨z,m*4,none⟩ (.bool Jh)).setCell ⟨z,m*4+1,none⟩ (K J1 I.length J4)).setCell ⟨z,m*4+2,none⟩ (K J2 L.length J5)).setCell ⟨z,m*4+3,none⟩ (K J3 J.length J6)) g 30 #[K (some ⟨z,0,none⟩) d.length yc,K (some ⟨gm,N,none⟩) A.length zc]:=G6;have br:Below w.heap.size w ((((x5.setCell ⟨z,m*4,none⟩ (.bool Jh)).setCell ⟨z,m*4+1,none⟩ (K J1 I.length J4)).setCell ⟨z,m*4+2,none⟩ (K J2 L.length J5)).setCell ⟨z,m*4+3,none⟩ (K J3 J.length J6)):=b6;clear e0 f0 e1 f1 e2 f2 e3 f3 bn aQ m6 R6 G6 b6 hW bb aH g0 g1 q0 q5 q6 q7 q8 Rb Bg O oo om oi b0;generalize ((((x5.setCell ⟨z,m*4,none⟩ (.bool Jh)).setCell ⟨z,m*4+1,none⟩ (K J1 I.length J4)).setCell ⟨z,m*4+2,none⟩ (K J2 L.length J5)).setCell ⟨z,m*4+3,none⟩ (K J3 J.length J6))=X6 at*;obtain⟨a2,aZ⟩:=H6.out;have b0:=br;have Rb:=bo;clear br bo H6;obtain⟨s0,s1⟩:=bZ.cel2;have bQ:Hid (CluQ.e (⟨K (some ⟨z,0,none⟩) d.length yc,d.set m (⟨Jh,K J1 I.length J4,I,K J2 L.length J5,L,K J3 J.length J6,J⟩:InstQ),K (some ⟨gm,N,none⟩) A.length zc,A⟩:CluQ)=E):=by
  show _=_;have h1:=M.out.2.2;rw[h1];simp only[CluQ.e,List.map_set,ae.out.1,ae.out.2,List.length_map,bU.out,ei]
 have aB:Hid ((cluK.foot (⟨K (some ⟨z,0,none⟩) d.length yc,d.set m (⟨Jh,K J1 I.length J4,I,K J2 L.length J5,L,K J3 J.length J6,J⟩:InstQ),K (some ⟨gm,N,none⟩) A.length zc,A⟩:CluQ)).Nodup∧∀k∈cluK.foot (⟨K (some ⟨z,0,none⟩) d.length yc,d.set m (⟨Jh,K J1 I.length J4,I,K J2 L.length J5,L,K J3 J.length J6,J⟩:InstQ),K (some ⟨gm,N,none⟩) A.length zc,A⟩:CluQ),W.heap.size≤k):=by
  have aM:∀k∈instK.fp (K (some ⟨z,0,none⟩) d.length yc) (d.set m (⟨Jh,K J1 I.length J4,I,K J2 L.length J5,L,K J3 J.length J6,J⟩:InstQ)),k∈instK.fp (K (some ⟨z,0,none⟩) d.length yc) d∨k∈instK.foot (⟨Jh,K J1 I.length J4,I,K J2 L.length J5,L,K J3 J.length J6,J⟩:InstQ):=fun k hk=>by
   simp only[Kind.fp,List.mem_append]at hk⊢;rcases hk with hk|hk
   ·exact Or.inl (Or.inl hk)
   ·rcases z1a (show m<d.length by omega) hk with hk|hk
    ·exact Or.inl (Or.inr hk)
    ·exact Or.inr hk
  refine⟨List.nodup_append.2 ⟨aP,bV.out,fun x hx y hy e=>?_⟩,fun k hk=>?_⟩
  ·have h2:=a7 y hy;rcases aM x hx with h3|h3
   ·exact be.out x h3 y hy e
   ·have:=gi x h3;omega
  ·rcases List.mem_append.1 hk with hk|hk
   ·rcases aM k hk with h3|h3
    ·exact(a8 k h3).1
    ·have:=gi k h3;omega
   ·exact(a7 k hk).1
 have bO:Hid (AN=(bl:Int)):=M.out.2.1;have bP:Hid (D=0):=M.out.1;clear aP M ei;have Rr:=Rb.row #[Q G 0,Q G (bl:Int),K (some ⟨z,0,none⟩) d.length yc,K (some ⟨gm,N,none⟩) A.length zc];have U:=z0v (X6) (w.heap.size+1) #[Q G 0,Q G (bl:Int),K (some ⟨z,0,none⟩) d.length yc,K (some ⟨gm,N,none⟩) A.length zc];have b3:=Out.keep b0 U b0.size (fun k hk=>by simp only[i]at hk;omega);have T:(R.info? 32).map (·.size)=some (#[Q G 0,Q G (bl:Int),K (some ⟨z,0,none⟩) d.length yc,K (some ⟨gm,N,none⟩) A.length zc]:Array Value).size:=by kernel_rfl
 replace a2:=a2.out U (fun k hk=>by have:=aB.out.2 k (s _ hk);simp only[i];omega);replace aZ:=aZ.out U (fun k hk=>by have:=aB.out.2 k (P _ hk);simp only[i];omega)
 go_wp2_with (refine z0s (by kernel_rfl) 32 _ _ rfl _ #[Q G 0,Q G (bl:Int),K (some ⟨z,0,none⟩) d.length yc,K (some ⟨gm,N,none⟩) A.length zc] rfl rfl 32 _ Rb T rfl (by simp[Value.oneCell']) ?_)
 obtain⟨r0,r1,r2,r3⟩:=Rr.cel4;exact bodyPost_ret (v:=.agg #[Q G 0,Q G (bl:Int),K (some ⟨z,0,none⟩) d.length yc,K (some ⟨gm,N,none⟩) A.length zc]) (by simp[results,results7,go_sem,r0,r1,r2,r3]) rfl ⟨(⟨K (some ⟨z,0,none⟩) d.length yc,d.set m (⟨Jh,K J1 I.length J4,I,K J2 L.length J5,L,K J3 J.length J6,J⟩:InstQ),K (some ⟨gm,N,none⟩) A.length zc,A⟩:CluQ),by rw[bP.out,bO.out],bQ.out,⟨a2,aZ⟩,aB.out.1,fun k hk=>by have:=aB.out.2 k hk;omega,b3⟩
theorem q0f(B0 b:Nat)(p:CluQ)(qi:InstQ)(SC an AV:Int)(E:CluE)(w:World)(hB:Blk w b 30 #[p.vo,p.vm])(h:cluK.own w p)(hz:cluF p.e=0)(hl:p.n≤1048576)(hi:instK.own w qi)(ni:(instK.foot qi).Nodup)(gi:∀k∈instK.foot qi,B0≤k)(aI:B0≤w.heap.size)(al:SC=0→AV=an∧E=⟨p.e.ord.set (p.e.ord.length-1) qi.e,p.e.mem⟩)(L:SC≠0→AV=0∧E=⟨[],[]⟩):
  Calls R 37 #[.pointer (some ⟨b,0,none⟩),.agg (q50 SC 0 false false 0 qi),Q G an] w fun e w'=>∃q:CluQ,e=.returned (.agg #[Q G SC,Q G AV,q.vo,q.vm])∧q.e=E∧cluK.own w' q∧(cluK.foot q).Nodup∧(∀k∈cluK.foot q,B0≤k)∧Below w.heap.size w w':=by
 have am:=fun w h=>q0e p w h hz hl
 have av:=fun(w':World) (hb:Below w.heap.size w w')=>cluK.own_out (F:=[]) (w':=w') h (Vb hb) (fun _ _=>by simp)
 have ag:Hid (∀q:CluQ,q.e=p.e→p.e.ord=q.ord.map InstQ.e∧p.e.mem=q.mem.map NodeQ.e∧1≤q.ord.length∧q.ord.length≤4):=fun q hq=>by
  have:=q3E (p:=q) (by rw[hq];exact hz);obtain⟨_,_,h1,h4,_⟩:=this;exact⟨by rw[←hq];rfl,by rw[←hq];rfl,h1,h4⟩
 have X:Hid _:=am;have Z:Hid _:=av;have H0:Hid _:=al;have H1:Hid _:=L;clear am av hz hl al L;generalize p.e=pe at*;obtain⟨vo,aG,vm,aF⟩:=p;obtain⟨a0,k0,rfl⟩:∃a c,vo=K a aG.length c:=h.1.shape;obtain⟨a1,k1,rfl⟩:∃a c,vm=K a aF.length c:=h.2.shape;obtain⟨Jh,Jb,A,Jr,D,Jd,C⟩:=qi;obtain⟨J1,J4,rfl⟩:∃a c,Jb=K a A.length c:=hi.1.shape;obtain⟨J2,J5,rfl⟩:∃a c,Jr=K a D.length c:=hi.2.1.shape;obtain⟨J3,J6,rfl⟩:∃a c,Jd=K a C.length c:=hi.2.2.shape;dsimp only at hB X Z;simp only[q50];have aL:=hB.lt;have b0:Below w.heap.size w ((w.alloc (.cells #[Q G SC,Q G 0,.bool false,.bool false,Q G 0,.bool Jh,K J1 A.length J4,K J2 D.length J5,K J3 C.length J6] 66)).alloc (.cells #[Q G 0,Q G 0,K none 0 0,K none 0 0] 32)):=by go_grown
 have Ri:=(l w 66 #[Q G SC,Q G 0,.bool false,.bool false,Q G 0,.bool Jh,K J1 A.length J4,K J2 D.length J5,K J3 C.length J6]).below (w':=((w.alloc (.cells #[Q G SC,Q G 0,.bool false,.bool false,Q G 0,.bool Jh,K J1 A.length J4,K J2 D.length J5,K J3 C.length J6] 66)).alloc (.cells #[Q G 0,Q G 0,K none 0 0,K none 0 0] 32))) (by go_grown);have Rb:=l (w.alloc (.cells #[Q G SC,Q G 0,.bool false,.bool false,Q G 0,.bool Jh,K J1 A.length J4,K J2 D.length J5,K J3 C.length J6] 66)) 32 #[Q G 0,Q G 0,K none 0 0,K none 0 0];simp only[World.size_alloc]at Rb;have A0:=hB.below b0;have oi:=instK.own_out (F:=[]) hi (Vb b0) (fun _ _=>by simp);have N:=instK.own_lt hi;have d0:=Ri.cell 0 _ rfl;obtain⟨c0,c1⟩:=A0.cel2;go_enter func37,ntmps37;by_cases hS:SC=0
 case neg=>
  have aJ:(SC !=0)=true:=by simpa using hS
  obtain⟨O,T⟩:=H1.out hS;have ak:Hid (AV=0∧E=⟨[],[]⟩):=⟨O,T⟩
  clear X Z ag oi N hi ni gi H0 H1 O T h hS
  go_wp2_with fail
  clear d0 c0 c1;generalize ((w.alloc (.cells #[Q G SC,Q G 0,.bool false,.bool false,Q G 0,.bool Jh,K J1 A.length J4,K J2 D.length J5,K J3 C.length J6] 66)).alloc (.cells #[Q G 0,Q G 0,K none 0 0,K none 0 0] 32))=W at*;refine(z3j SC W).mono ?_;rintro e w2 ⟨rfl,hb⟩;replace Rb:=Rb.below hb;replace b0:=b0.trans (hb.mono b0.size);clear hb;have Rr:=Rb.row #[Q G SC,Q G 0,K none 0 0,K none 0 0];have U:=z0v (w2) (w.heap.size+1) #[Q G SC,Q G 0,K none 0 0,K none 0 0];have b3:=Out.keep b0 U b0.size (fun k hk=>by simp only[i]at hk;omega);have aj:(R.info? 32).map (·.size)=some (#[Q G SC,Q G 0,K none 0 0,K none 0 0]:Array Value).size:=by kernel_rfl
  go_wp2_with (refine z0s (by kernel_rfl) 32 _ _ rfl _ #[Q G SC,Q G 0,K none 0 0,K none 0 0] rfl rfl 32 _ Rb aj rfl (by simp[Value.oneCell']) ?_)
  obtain⟨r0,r1,r2,r3⟩:=Rr.cel4;exact bodyPost_ret (v:=.agg #[Q G SC,Q G 0,K none 0 0,K none 0 0]) (by simp[results,results37,go_sem,r0,r1,r2,r3]) rfl ⟨q1V,by rw[ak.out.1];rfl,by rw[ak.out.2];rfl,(z0y _ 0).1,(z0y w 0).2.1,(z0y w B0).2.2,b3⟩
 subst hS;have aE:((0:Int) !=0)=false:=by decide
 obtain⟨O,T⟩:=H0.out rfl;have ax:Hid (AV=an):=O;have az:Hid _:=T;clear H0 H1 O T
 go_wp2_with fail
 clear d0 c0 c1 aE;generalize ((w.alloc (.cells #[Q G 0,Q G 0,.bool false,.bool false,Q G 0,.bool Jh,K J1 A.length J4,K J2 D.length J5,K J3 C.length J6] 66)).alloc (.cells #[Q G 0,Q G 0,K none 0 0,K none 0 0] 32))=W at*;have aK:=Rb.lt;refine(X.out W (Z.out W b0)).mono ?_;rintro e w2 ⟨q2,rfl,e2,o2,n2,g2,hb⟩;have aM:=hb.size;replace Ri:=Ri.below hb;replace Rb:=Rb.below hb;replace oi:=instK.own_out (F:=[]) oi (Vb hb) (fun _ _=>by simp);replace b0:=b0.trans (hb.mono b0.size);clear hb X Z A0 hB h hi;obtain⟨L,ah,ap,aq⟩:=ag.out q2 e2;clear ag e2;obtain⟨wo,d,wm,z⟩:=q2;dsimp only at L ah ap aq;obtain⟨oo,om⟩:instK.Own w2 wo d∧nodeK.Own w2 wm z:=o2;obtain⟨ya,yc,rfl⟩:=oo.shape;obtain⟨za,zc,rfl⟩:=om.shape;obtain⟨go,rfl⟩:=oo.blkOf (by omega);have ai:(instK.fp (K (some ⟨go,0,none⟩) d.length yc) d).Nodup:=(List.nodup_append.1 n2).1;have au:(nodeK.fp (K za z.length zc) z).Nodup:=(List.nodup_append.1 n2).2.1;have af:Hid (∀x∈instK.fp (K (some ⟨go,0,none⟩) d.length yc) d,∀y∈nodeK.fp (K za z.length zc) z,x≠y):=fun x hx y hy=>(List.nodup_append.1 n2).2.2 x hx y hy
 have ab:∀k∈instK.fp (K (some ⟨go,0,none⟩) d.length yc) d,W.heap.size≤k∧k<w2.heap.size:=fun k hk=>⟨g2 k (s _ hk),oo.lt k hk⟩
 have aa:∀k∈nodeK.fp (K za z.length zc) z,W.heap.size≤k∧k<w2.heap.size∧k≠go:=fun k hk=>⟨g2 k (P _ hk),om.lt k hk,fun e=>af.out go (by simp[Kind.fp,blk,Value.ownBlock]) k hk e.symm⟩
 have aB:=ab go (by simp[Kind.fp,blk,Value.ownBlock]);clear n2 g2;obtain⟨m,hm⟩:∃m:Nat,d.length=m+1:=⟨d.length-1,by omega⟩
 have ar:d.length-1=m:=by omega
 have aO:wrap64 (m:Int)=(m:Int):=by unfold wrap64;omega
 have Bx:=l w2 30 #[K (some ⟨go,0,none⟩) d.length yc,K za z.length zc];have hX:Below w2.heap.size w2 (w2.alloc (.cells #[K (some ⟨go,0,none⟩) d.length yc,K za z.length zc] 30)):=by go_grown
 replace Ri:=Ri.below hX;replace Rb:=Rb.below hX;replace oo:=oo.below hX;replace om:=om.below hX;replace oi:=instK.own_out (F:=[]) oi (Vb hX) (fun _ _=>by simp);replace b0:=b0.trans (hX.mono b0.size);have aN:=hX.size;have t0:=Bx.cell 0 _ rfl;have d5:=Ri.cell 5 _ rfl;have d6:=Ri.cell 6 _ rfl;have d7:=Ri.cell 7 _ rfl;have d8:=Ri.cell 8 _ rfl;have I:m<d.length:=by omega
 obtain⟨e0,f0⟩:=oo.cell m I 0 _ rfl;obtain⟨e1,f1⟩:=oo.cell m I 1 _ rfl;obtain⟨e2,f2⟩:=oo.cell m I 2 _ rfl;obtain⟨e3,f3⟩:=oo.cell m I 3 _ rfl;have ao:∀j,m*instK.size+j=m*4+j:=fun j=>rfl
 rw[ao]at e0 f0 e1 f1 e2 f2 e3 f3;rw[Nat.add_zero]at e0 f0;clear ao;have ae:=z1l oo.1 (m*4) [.bool Jh,K J1 A.length J4,K J2 D.length J5,K J3 C.length J6];have M:Out [go] (w2.alloc (.cells #[K (some ⟨go,0,none⟩) d.length yc,K za z.length zc] 30)) (((((w2.alloc (.cells #[K (some ⟨go,0,none⟩) d.length yc,K za z.length zc] 30)).setCell ⟨go,m*4,none⟩ (.bool Jh)).setCell ⟨go,m*4+1,none⟩ (K J1 A.length J4)).setCell ⟨go,m*4+2,none⟩ (K J2 D.length J5)).setCell ⟨go,m*4+3,none⟩ (K J3 C.length J6)):=(((Vc _ _ _ _).trans (Vc _ _ _ _)).trans (Vc _ _ _ _)).trans (Vc _ _ _ _);have J:instK.Own (((((w2.alloc (.cells #[K (some ⟨go,0,none⟩) d.length yc,K za z.length zc] 30)).setCell ⟨go,m*4,none⟩ (.bool Jh)).setCell ⟨go,m*4+1,none⟩ (K J1 A.length J4)).setCell ⟨go,m*4+2,none⟩ (K J2 D.length J5)).setCell ⟨go,m*4+3,none⟩ (K J3 C.length J6)) (K (some ⟨go,0,none⟩) d.length yc) (d.set m (⟨Jh,K J1 A.length J4,A,K J2 D.length J5,D,K J3 C.length J6,C⟩:InstQ)):=by
  refine Kind.Own.put oo m I (⟨Jh,K J1 A.length J4,A,K J2 D.length J5,D,K J3 C.length J6,C⟩:InstQ) ae M ?_ oi ?_
  ·intro q hq x hx aw;have:=List.nodup_cons.1 (show(go::d.flatMap instK.foot).Nodup from ai);exact this.1 (List.mem_flatMap.2 ⟨q,hq,aw▸hx⟩)
  ·intro x hx aw;have:=N x hx;omega
 have ad:(instK.fp (K (some ⟨go,0,none⟩) d.length yc) (d.set m (⟨Jh,K J1 A.length J4,A,K J2 D.length J5,D,K J3 C.length J6,C⟩:InstQ))).Nodup:=z6l ai m I _ ni (fun k hk aC=>by have:=N k hk;have:=ab k aC;omega);have m6:=om.out M (fun k hk=>by have:=aa k hk;simp only[i];omega);have R6:Blk (((((w2.alloc (.cells #[K (some ⟨go,0,none⟩) d.length yc,K za z.length zc] 30)).setCell ⟨go,m*4,none⟩ (.bool Jh)).setCell ⟨go,m*4+1,none⟩ (K J1 A.length J4)).setCell ⟨go,m*4+2,none⟩ (K J2 D.length J5)).setCell ⟨go,m*4+3,none⟩ (K J3 C.length J6)) (w.heap.size+1) 32 #[Q G 0,Q G 0,K none 0 0,K none 0 0]:=(M.block _ Rb.lt (by simp only[i];omega)).trans Rb;have G6:Blk (((((w2.alloc (.cells #[K (some ⟨go,0,none⟩) d.length yc,K za z.length zc] 30)).setCell ⟨go,m*4,none⟩ (.bool Jh)).setCell ⟨go,m*4+1,none⟩ (K J1 A.length J4)).setCell ⟨go,m*4+2,none⟩ (K J2 D.length J5)).setCell ⟨go,m*4+3,none⟩ (K J3 C.length J6)) w2.heap.size 30 #[K (some ⟨go,0,none⟩) d.length yc,K za z.length zc]:=(M.block _ Bx.lt (by simp only[i];omega)).trans Bx;have b6:=Out.keep b0 M b0.size (fun k hk=>by simp only[i]at hk;omega);have V:∀k∈instK.fp (K (some ⟨go,0,none⟩) d.length yc) (d.set m (⟨Jh,K J1 A.length J4,A,K J2 D.length J5,D,K J3 C.length J6,C⟩:InstQ)),k∈instK.fp (K (some ⟨go,0,none⟩) d.length yc) d∨k∈instK.foot (⟨Jh,K J1 A.length J4,A,K J2 D.length J5,D,K J3 C.length J6,C⟩:InstQ):=fun k hk=>by
  simp only[Kind.fp,List.mem_append]at hk⊢;rcases hk with hk|hk
  ·exact Or.inl (Or.inl hk)
  ·rcases z1a I hk with hk|hk
   ·exact Or.inl (Or.inr hk)
   ·exact Or.inr hk
 have Y:Hid ((cluK.foot (⟨K (some ⟨go,0,none⟩) d.length yc,(d.set m (⟨Jh,K J1 A.length J4,A,K J2 D.length J5,D,K J3 C.length J6,C⟩:InstQ)),K za z.length zc,z⟩:CluQ)).Nodup∧∀k∈cluK.foot (⟨K (some ⟨go,0,none⟩) d.length yc,(d.set m (⟨Jh,K J1 A.length J4,A,K J2 D.length J5,D,K J3 C.length J6,C⟩:InstQ)),K za z.length zc,z⟩:CluQ),B0≤k∧k≠w.heap.size+1):=by
  refine⟨List.nodup_append.2 ⟨ad,au,fun x hx y hy e=>?_⟩,fun k hk=>?_⟩
  ·have h2:=aa y hy;rcases V x hx with h3|h3
   ·exact af.out x h3 y hy e
   ·have:=N x h3;omega
  ·rcases List.mem_append.1 hk with hk|hk
   ·rcases V k hk with h3|h3
    ·have:=ab k h3;omega
    ·have:=gi k h3;have:=N k h3;omega
   ·have:=aa k hk;omega
 have ay:Hid (CluQ.e (⟨K (some ⟨go,0,none⟩) d.length yc,(d.set m (⟨Jh,K J1 A.length J4,A,K J2 D.length J5,D,K J3 C.length J6,C⟩:InstQ)),K za z.length zc,z⟩:CluQ)=⟨pe.ord.set (pe.ord.length-1) (InstQ.e (⟨Jh,K J1 A.length J4,A,K J2 D.length J5,D,K J3 C.length J6,C⟩:InstQ)),pe.mem⟩):=by
  show _=_;rw[L,ah];simp only[CluQ.e,List.map_set,List.length_map,ar]
 obtain⟨W9,aA⟩:∃W9,(((((w2.alloc (.cells #[K (some ⟨go,0,none⟩) d.length yc,K za z.length zc] 30)).setCell ⟨go,m*4,none⟩ (.bool Jh)).setCell ⟨go,m*4+1,none⟩ (K J1 A.length J4)).setCell ⟨go,m*4+2,none⟩ (K J2 D.length J5)).setCell ⟨go,m*4+3,none⟩ (K J3 C.length J6))=W9:=⟨_,rfl⟩
 rw[aA]at J m6 R6 G6 b6;obtain⟨s0,s1⟩:=G6.cel2;have aH:(d.length:Int)-1=(m:Int):=by omega
 have aD:(m:Int)<(d.length:Int):=by omega
 clear ae M V L ah hm ar ap aq ab aa N gi ai au ad ni af aB Bx hX Ri oo om oi Rb b0 G6;have Rb:=R6;have b0:=b6;have Rr:=Rb.row #[Q G 0,Q G an,K (some ⟨go,0,none⟩) d.length yc,K za z.length zc];have U:=z0v (W9) (w.heap.size+1) #[Q G 0,Q G an,K (some ⟨go,0,none⟩) d.length yc,K za z.length zc];have b3:=Out.keep b0 U b0.size (fun k hk=>by simp only[i]at hk;omega);have aj:(R.info? 32).map (·.size)=some (#[Q G 0,Q G an,K (some ⟨go,0,none⟩) d.length yc,K za z.length zc]:Array Value).size:=by kernel_rfl
 replace J:=J.out U (fun k hk=>by have:=Y.out.2 k (s _ hk);simp only[i];omega);replace m6:=m6.out U (fun k hk=>by have:=Y.out.2 k (P _ hk);simp only[i];omega)
 go_wp2_with (refine z0s (by kernel_rfl) 32 _ _ rfl _ #[Q G 0,Q G an,K (some ⟨go,0,none⟩) d.length yc,K za z.length zc] rfl rfl 32 _ Rb aj rfl (by simp[Value.oneCell']) ?_)
 obtain⟨r0,r1,r2,r3⟩:=Rr.cel4;exact bodyPost_ret (v:=.agg #[Q G 0,Q G an,K (some ⟨go,0,none⟩) d.length yc,K za z.length zc]) (by simp[results,results37,go_sem,r0,r1,r2,r3]) rfl ⟨(⟨K (some ⟨go,0,none⟩) d.length yc,(d.set m (⟨Jh,K J1 A.length J4,A,K J2 D.length J5,D,K J3 C.length J6,C⟩:InstQ)),K za z.length zc,z⟩:CluQ),by rw[ax.out],ay.out.trans az.out.symm,⟨J,m6⟩,Y.out.1,fun k hk=>(Y.out.2 k hk).1,b3⟩
theorem q5W(x y:Int)(w:World):Calls R 36 #[Q G x,Q G y] w fun e w'=>e=.returned (Q G (min x y))∧w'=w:=by
 by_cases h:x<y
 ·have hm:min x y=x:=by omega
  go_enter func36,ntmps36
  go_wp2
  go_ret;exact⟨by first|rfl|(rw[hm];rfl),rfl⟩
 ·have hm:min x y=y:=by omega
  go_enter func36,ntmps36
  go_wp2
  go_ret;exact⟨by first|rfl|(rw[hm];rfl),rfl⟩
theorem z9h(b:Nat)(p:CluQ)(mo:Int)(w:World)(hB:Blk w b 30 #[p.vo,p.vm])(h:cluK.own w p)(hz:cluF p.e=0)(hl:p.n≤1048576):
  Calls R 17 #[.pointer (some ⟨b,0,none⟩),Q G mo] w fun e w'=>∃q:CluQ,e=.returned (.agg #[Q G (ofC p.e mo),Q G (ofA p.e mo),q.vo,q.vm])∧q.e=ofE p.e mo∧cluK.own w' q∧(cluK.foot q).Nodup∧(∀k∈cluK.foot q,w.heap.size≤k)∧Below w.heap.size w w':=by
 have az:=fun B0 qi SC an AV E w hB h hi ni gi be bf bg=>q0f B0 b p qi SC an AV E w hB h hz hl hi ni gi be bf bg
 have aD:=fun(w':World) (hb:Below w.heap.size w w')=>cluK.own_out (F:=[]) (w':=w') h (Vb hb) (fun _ _=>by simp)
 have aZ:¬(1≤mo∧mo≤4)→ofC p.e mo=3∧ofA p.e mo=0∧ofE p.e mo=⟨[],[]⟩:=fun h1=>q3B hz h1
 have aV:(1≤mo∧mo≤4)→ofT p.e=[]→ofC p.e mo=4∧ofA p.e mo=0∧ofE p.e mo=⟨[],[]⟩:=fun h1 h2=>q3C hz h1 h2
 have a2:(1≤mo∧mo≤4)→ofT p.e≠[]→sbC (ofL p.e) (ofB p.e mo)≠0→ofA p.e mo=0∧ofE p.e mo=⟨[],[]⟩:=fun h1 h2 h3=>(q1T (q3D hz h1 h2) h3).2
 have a6:(1≤mo∧mo≤4)→ofT p.e≠[]→ofC p.e mo=sbC (ofL p.e) (ofB p.e mo):=fun h1 h2=>q3D hz h1 h2
 have aW:(1≤mo∧mo≤4)→ofT p.e≠[]→sbC (ofL p.e) (ofB p.e mo)=0→ofA p.e mo=((ofB p.e mo).length:Int)∧ofE p.e mo=⟨p.e.ord.set (p.e.ord.length-1) (sbI (ofL p.e) (ofB p.e mo)),p.e.mem⟩:=fun h1 h2 h3=>(q5V hz h1 h2 h3).2
 obtain⟨hi,hj,aR,aS,eT,eL,ae,bh⟩:=q3E hz;have aY:instK.Own w p.vo p.ord:=h.1;have aX:nodeK.Own w p.vm p.mem:=h.2;have aH:ofB p.e mo=(ofT p.e).take mo.toNat:=rfl;have bo:p.ord.length+nmL InstQ.n p.ord≤1048576:=by unfold CluQ.n at hl;omega
 have bm:p.mem.length+nmL NodeQ.n p.mem≤1048576:=by unfold CluQ.n at hl;omega
 clear bh hz hl;generalize ofC p.e mo=D at*;generalize ofA p.e mo=AN at*;generalize ofE p.e mo=E at*;generalize p.e=pe at*;obtain⟨vo,d,vm,y⟩:=p;obtain⟨a0,k0,rfl⟩:∃a c,vo=K a d.length c:=h.1.shape;obtain⟨a1,k1,rfl⟩:∃a c,vm=K a y.length c:=h.2.shape;dsimp only at az aD hi hj aR aS eT eL ae hB bo bm;have oo:instK.Own w (K a0 d.length k0) d:=aY;have om:nodeK.Own w (K a1 y.length k1) y:=aX;clear aY aX;have am:Hid _:=az;have aq:Hid _:=aD;have ar:Hid _:=aZ;have ao:Hid _:=aV;have au:Hid _:=a2;have av:Hid _:=a6;have ap:Hid _:=aW;have aG:Hid _:=aH;clear az aD aZ aV a2 a6 aW aH;have ax:=hB.lt;have b0:Below w.heap.size w (w.alloc (.cells #[Q G 0,Q G 0,K none 0 0,K none 0 0] 32)):=by go_grown
 have A0:=hB.below b0;have Rb:=l w 32 #[Q G 0,Q G 0,K none 0 0,K none 0 0];have bA:=Rb.lt;have aQ:=fun w=>z2C mo 1 4 w
 go_enter func17,ntmps17
 go_wp2_with fail
 generalize (w.alloc (.cells #[Q G 0,Q G 0,K none 0 0,K none 0 0] 32))=W at*;refine(aQ W).mono ?_;rintro e w9 ⟨rfl,O⟩;replace O:=O.symm;subst O;clear aQ;by_cases hr:1≤mo∧mo≤4
 case neg=>
  have ab:inW mo 1 4=false:=inW_false.2 hr;have C:Hid (D=3∧AN=0∧E=⟨[],[]⟩):=ar.out hr;rw[ab];clear am aq ar ao au av ap aG oo om hr ab A0
  go_wp2_with fail
  refine(z3j 3 W).mono ?_;rintro e w2 ⟨rfl,hb⟩;replace Rb:=Rb.below hb;replace b0:=b0.trans (hb.mono b0.size);clear hb;have Rr:=Rb.row #[Q G 3,Q G 0,K none 0 0,K none 0 0];have U:=z0v (w2) (w.heap.size) #[Q G 3,Q G 0,K none 0 0,K none 0 0];have b3:=Out.keep b0 U b0.size (fun k hk=>by simp only[i]at hk;omega);have ad:(R.info? 32).map (·.size)=some (#[Q G 3,Q G 0,K none 0 0,K none 0 0]:Array Value).size:=by kernel_rfl
  go_wp2_with (refine z0s (by kernel_rfl) 32 _ _ rfl _ #[Q G 3,Q G 0,K none 0 0,K none 0 0] rfl rfl 32 _ Rb ad rfl (by simp[Value.oneCell']) ?_)
  obtain⟨r0,r1,r2,r3⟩:=Rr.cel4;exact bodyPost_ret (v:=.agg #[Q G 3,Q G 0,K none 0 0,K none 0 0]) (by simp[results,results17,go_sem,r0,r1,r2,r3]) rfl ⟨q1V,by first|(rw[C.out.1,C.out.2.1];done)|(rw[C.out.1,C.out.2.1];rfl),by first|(rw[C.out.2.2];done)|(rw[C.out.2.2];rfl),(z0y _ 0).1,(z0y w 0).2.1,(z0y w w.heap.size).2.2,b3⟩
 have ab:inW mo 1 4=true:=inW_true.2 hr;rw[ab];have V:Hid _:=ao.out hr;have Y:Hid _:=au.out hr;have Z:Hid _:=av.out hr;have X:Hid _:=ap.out hr;have HR:Hid (1≤mo∧mo≤4):=hr;clear ar ao au av ap hr ab;generalize bk:(d.length+2) % 3=ci at*;have L:=fun w hB=>z5e b d.length a0 k0 (K a1 y.length k1) w hB (by omega)
 have a7:((d.length:Int)+2).tmod 3=(ci:Int):=by
  rw[Int.tmod_eq_emod_of_nonneg (by omega)];omega
 rw[a7]at L;clear a7 bk;replace oo:=oo.below b0;replace om:=om.below b0;obtain⟨gm,bv,rfl,bF,aT,bn⟩:=om.at.cell (by decide) ci hi;have ai:∀j x,(nodeK.cells y[ci])[j]?=some x→W.cell? ⟨gm,bv+ci*7+j,none⟩=some x:=aT;have t4:=z0a (ai 4 y[ci].vt rfl);have N:txnK.Own W y[ci].vt y[ci].tent:=(om.2 _ (Va hi)).2.2.1;have bH:y[ci].tent.length+nmL B y[ci].tent≤1048576:=by
  have h1:NodeQ.n y[ci]≤nmL NodeQ.n y:=z4i NodeQ.n y _ (Va hi);have h2:y[ci].tent.length+nmL B y[ci].tent≤NodeQ.n y[ci]:=by show _≤RepQ.n _;simp only[RepQ.n,NodeQ.r];omega
  omega
 clear aT ai bn;generalize y[ci].vt=tv at*;generalize y[ci].tent=te at*;obtain⟨ta,tc,rfl⟩:=N.shape;have aO:(ci:Int)<(y.length:Int):=by omega
 go_wp2_with fail
 obtain⟨g0,g1⟩:=A0.lts2;have hW:Below W.heap.size W W.drew:=(Below.refl _ _).drew;have aC:Nonempty (Lat W):=⟨⟨W,Below.refl _ _⟩⟩
 refine z0b (S:=fun w'=>∃u:Lat W,w'=u.val) (by kernel_rfl) ?_;refine sgr [(0,5)] 6 (by kernel_rfl) ⟨⟨_,hW⟩,rfl⟩ ?_;simp only[pkE];repeat go_big_quiet_step (fail)
 refine wpQuiet_nil ?_;refine cla 5 (some 16) 35 #[.pointer (some ⟨b,0,none⟩)] 5 (by kernel_rfl) ?_;refine(L _ (A0.below hW)).mono ?_;rintro e w2 ⟨rfl,J⟩;replace hW:=hW.trans (J.mono hW.size);clear J;refine⟨_,rfl,⟨⟨_,hW⟩,rfl⟩,?_⟩;simp only[f,pgE,pjE];refine sgr [(6,5)] 0 (by kernel_rfl) ⟨⟨_,hW⟩,rfl⟩ ?_;simp only[pkE];repeat go_big_quiet_step (fail)
 refine wpQuiet_nil ?_;refine z0g (by kernel_rfl) ?_;clear aC g0 g1 t4 L aO;replace Rb:=Rb.below hW;replace A0:=A0.below hW;replace oo:=oo.below hW;replace N:=N.below hW;replace b0:=b0.trans (hW.mono b0.size);have bG:=hW.size;clear hW om;by_cases af:te.length=0
 case pos=>
  have al:(te.length:Int)=0:=by omega
  have aj:ofT pe=[]:=by rw[eT,List.length_eq_zero_iff.1 af];rfl
  have C:Hid (D=4∧AN=0∧E=⟨[],[]⟩):=V.out aj;have hz:((te.length:Int)==0)=true:=by simpa using al
  clear V Y Z X am aq oo N eT aj af al A0
  go_wp2_with fail
  refine(z3j 4 w2).mono ?_;rintro e w3 ⟨rfl,hb⟩;replace Rb:=Rb.below hb;replace b0:=b0.trans (hb.mono b0.size);clear hb;have Rr:=Rb.row #[Q G 4,Q G 0,K none 0 0,K none 0 0];have U:=z0v (w3) (w.heap.size) #[Q G 4,Q G 0,K none 0 0,K none 0 0];have b3:=Out.keep b0 U b0.size (fun k hk=>by simp only[i]at hk;omega);have ad:(R.info? 32).map (·.size)=some (#[Q G 4,Q G 0,K none 0 0,K none 0 0]:Array Value).size:=by kernel_rfl
  go_wp2_with (refine z0s (by kernel_rfl) 32 _ _ rfl _ #[Q G 4,Q G 0,K none 0 0,K none 0 0] rfl rfl 32 _ Rb ad rfl (by simp[Value.oneCell']) ?_)
  obtain⟨r0,r1,r2,r3⟩:=Rr.cel4;exact bodyPost_ret (v:=.agg #[Q G 4,Q G 0,K none 0 0,K none 0 0]) (by simp[results,results17,go_sem,r0,r1,r2,r3]) rfl ⟨q1V,by first|(rw[C.out.1,C.out.2.1];done)|(rw[C.out.1,C.out.2.1];rfl),by first|(rw[C.out.2.2];done)|(rw[C.out.2.2];rfl),(z0y _ 0).1,(z0y w 0).2.1,(z0y w w.heap.size).2.2,b3⟩
 have hz:((te.length:Int)==0)=false:=by
  have:¬(te.length:Int)=0:=by omega
  simpa using this
 have T:ofT pe≠[]:=by
  rw[eT];intro h9;have:=congrArg List.length h9;simp at this;exact af (by rw[this];rfl)
 have aw:D=_:=Z.out T;have ag:Hid _:=Y.out T;have I:Hid _:=X.out T;obtain⟨bl,ax⟩:∃bl:Nat,bl=min mo.toNat te.length:=⟨_,rfl⟩
 have bs:=HR.out;have aU:min mo (te.length:Int)=(bl:Int):=by omega
 have aN:bl≤te.length:=by omega
 have hB:ofB pe mo=(te.take bl).map H:=by
  rw[aG.out,eT,←List.map_take,ax]
  congr 1
  rw[List.take_eq_take_iff];omega
 rw[hB]at ag I aw;have ah:((te.take bl).map H).length=bl:=by simp;omega
 rw[ah]at I;have aa:=z7N N.1;have aM:txnK.At w2 (K ta bl tc) (te.take bl):=N.at.takeK bl aN;have bi:(te.take bl).length+nmL B (te.take bl)≤1048576:=by
  have:=q0U B te bl;omega
 clear V Y Z X T af ax hB ah bs eT N;obtain⟨m,hm⟩:∃m:Nat,d.length=m+1:=⟨d.length-1,by omega⟩
 have aA:d.length-1=m:=by omega
 simp only[aA]at hj eL ae;obtain⟨go,aF,rfl,br,bp,bq⟩:=oo.at.cell (by decide) m (by omega);have aK:InstP w2 go (aF+m*4) (d[m]'(by omega)):=by
  obtain⟨g9,f9,e9,_,h9⟩:=z5o oo.at m (by omega)
  cases e9
  exact h9
 have bt:=oo.2 _ (Va (show m<d.length by omega));have aP:InstQ.n d[m]≤1048576:=by have:=z4i InstQ.n d d[m] (Va (show m<d.length by omega));omega
 have ak:=q2M go (aF+m*4) d[m] (K ta bl tc) (te.take bl);have aE:=fun w hP bj hT=>ak w hP bj aP ae hT bi
 clear ak;have aJ:sbC (InstQ.e d[m]) ((te.take bl).map H)=sbC (ofL pe) ((te.take bl).map H):=by rw[eL]
 have aI:sbI (InstQ.e d[m]) ((te.take bl).map H)=sbI (ofL pe) ((te.take bl).map H):=by rw[eL]
 rw[aJ,aI]at aE;clear aJ aI eL bp bq bt aP;generalize sbC (ofL pe) ((te.take bl).map H)=SC at*;generalize sbI (ofL pe) ((te.take bl).map H)=SI at*;have bb:Hid _:=aE;have bc:Hid _:=aM;have ba:Hid _:=aK;have bE:m<d.length:=by omega
 have bz:Hid (d.length-1=m):=aA;have bx:(d.length:Int)-1=(m:Int):=by omega
 have bw:(m:Int)<(d.length:Int):=by omega
 have bI:wrap64 (m:Int)=(m:Int):=by unfold wrap64;omega
 clear aE aM aK ae hm aA aR aS;have aB:=fun w=>q5W mo (te.length:Int) w
 rw[aU]at aB;have bC:¬((bl:Int)<0):=by omega
 have ay:te.length≤tc∧tc≤maxLen:=aa;have bB:(bl:Int)≤(tc:Int):=by omega
 clear ay aa
 go_wp2_with fail
 refine(aB w2).mono ?_;rintro e w9 ⟨rfl,O⟩;replace O:=O.symm;subst O;clear aB
 go_wp2_with fail
 have bD:w.heap.size<w2.heap.size:=by omega
 have g0:=z0k (F:=[w.heap.size]) (A0.cell 0 _ rfl) (by simp only[i];omega);have hW:Below w2.heap.size w2 w2.drew:=(Below.refl _ _).drew;have aC:Nonempty (LatO [w.heap.size] w2):=⟨⟨w2,Out.refl _ _⟩⟩
 have M:∀w',Below w2.heap.size w2 w'→∃u:LatO [w.heap.size] w2,w'=u.val:=fun w' bu=>⟨⟨w',Vb bu⟩,rfl⟩
 refine z0b (S:=fun w'=>∃u:LatO [w.heap.size] w2,w'=u.val) (by kernel_rfl) ?_;refine sgr [(0,9)] 9 (by kernel_rfl) (M _ hW) ?_;simp only[pkE];repeat go_big_quiet_step (fail)
 refine wpQuiet_nil ?_;refine qta 9 (some 40) (Q G (d.length:Int)) 8 (by kernel_rfl) (fun u _=>by kernel_rfl) (M _ hW) ?_;simp only[f,pgE,pjE];refine sgr [(10,3),(14,1)] 4 (by kernel_rfl) (M _ hW) ?_;simp only[pkE];repeat go_big_quiet_step (fail)
 refine wpQuiet_nil ?_;refine qta 15 (some 46) (Q G (bl:Int)) 3 (by kernel_rfl) (fun u _=>by kernel_rfl) (M _ hW) ?_;simp only[f,pgE,pjE];refine cla 13 (some 44) 38 #[.pointer (some ⟨go,aF+m*4,none⟩),K ta bl tc] 2 (by kernel_rfl) ?_;refine(bb.out _ (ba.out.below hW) (Nat.lt_of_lt_of_le br hW.size) (Kind.At.below bc.out hW)).mono ?_;rintro e x3 ⟨qi,rfl,ei,oi,ni,gi,J⟩;have bJ:=hW.size;have bd:∀k∈instK.foot qi,w2.heap.size≤k:=fun k hk=>by have:=gi k hk;omega
 clear gi;replace hW:=hW.trans (J.mono hW.size);clear J;refine⟨_,rfl,(M _ hW),?_⟩;simp only[f,pgE,pjE];refine cla 16 (some 47) 37 #[.pointer (some ⟨b,0,none⟩),.agg (q50 SC 0 false false 0 qi),Q G (bl:Int)] 1 (by kernel_rfl) ?_;refine(am.out w2.heap.size qi SC (bl:Int) AN E x3 (A0.below hW) (aq.out _ (b0.trans (hW.mono b0.size))) oi ni bd hW.size (fun h9=>⟨(I.out h9).1,by first|(rw[(I.out h9).2,ei];done)|(rw[(I.out h9).2,ei];rfl)⟩) (fun h9=>ag.out h9)).mono ?_;rintro e x4 ⟨q2,rfl,e2,o2,n2,g2,J⟩;replace hW:=hW.trans (J.mono hW.size);clear J;refine⟨_,rfl,(M _ hW),?_⟩;simp only[f,pgE,pjE];obtain⟨wo,A,wm,z⟩:=q2;obtain⟨ya,yc,rfl⟩:∃a c,wo=K a A.length c:=o2.1.shape;obtain⟨za,zc,rfl⟩:∃a c,wm=K a z.length c:=o2.2.shape;have R4:=Rb.below hW;have b4:=b0.trans (hW.mono b0.size);have Rr:=R4.row #[Q G SC,Q G AN,K ya A.length yc,K za z.length zc];have U:=z0v x4 w.heap.size #[Q G SC,Q G AN,K ya A.length yc,K za z.length zc];have b5:=Out.keep b4 U b4.size (fun k hk=>by simp only[i]at hk;omega);have o5:=cluK.own_out o2 U (fun k hk=>by have:=g2 k hk;simp only[i];omega);have aL:Out [w.heap.size] w2 (x4.setRow w.heap.size #[Q G SC,Q G AN,K ya A.length yc,K za z.length zc]):=(Vb hW).trans U;have ad:(R.info? 32).map (·.size)=some (#[Q G SC,Q G AN,K ya A.length yc,K za z.length zc]:Array Value).size:=by kernel_rfl
 refine ona 17 0 rfl (by kernel_rfl) ?_;refine z0s (by kernel_rfl) 32 _ _ rfl _ #[Q G SC,Q G AN,K ya A.length yc,K za z.length zc] rfl rfl 32 _ R4 ad rfl (by simp[Value.oneCell']) ?_;refine ThenGo.to ⟨⟨⟨_,aL⟩,rfl⟩,?_⟩;refine z0g (by kernel_rfl) ?_;obtain⟨r0,r1,r2,r3⟩:=Rr.cel4;have a8:Hid (D=SC):=aw;clear aw aC M g0 aL hW U o2 R4 b4
 go_wp2_with fail
 exact bodyPost_ret (v:=.agg #[Q G SC,Q G AN,K ya A.length yc,K za z.length zc]) (by simp[results,results17,go_sem,r0,r1,r2,r3]) rfl ⟨(⟨K ya A.length yc,A,K za z.length zc,z⟩:CluQ),by rw[a8.out],e2,o5,n2,fun k hk=>by have:=g2 k hk;omega,b5⟩
theorem z4k(p:CluQ)(mo:Int)(w:World)(h:cluK.own w p)(hl:p.n≤1048576):
  Calls R 5 #[.agg #[p.vo,p.vm],Q G mo] w fun e w'=>∃q:CluQ,e=.returned (.agg #[Q G (ofC p.e mo),Q G (ofA p.e mo),q.vo,q.vm])∧q.e=ofE p.e mo∧cluK.own w' q∧(cluK.foot q).Nodup∧(∀k∈cluK.foot q,w.heap.size≤k)∧Below w.heap.size w w':=by
 have hf:=fun b w hB h=>z9g b p w hB h hl
 have M:=fun b w hB h hz=>z9h b p mo w hB h hz hl
 have N:=fun(w':World) (hb:Below w.heap.size w w')=>cluK.own_out (F:=[]) (w':=w') h (Vb hb) (fun _ _=>by simp)
 have V:cluF p.e≠0→ofC p.e mo=cluF p.e∧ofA p.e mo=0∧ofE p.e mo=⟨[],[]⟩:=fun h1=>q3A h1
 generalize ofC p.e mo=D at*;generalize ofA p.e mo=AN at*;generalize ofE p.e mo=E at*;generalize cluF p.e=C at*;clear hl;obtain⟨vo,A,vm,z⟩:=p;obtain⟨a0,k0,rfl⟩:∃a c,vo=K a A.length c:=h.1.shape;obtain⟨a1,k1,rfl⟩:∃a c,vm=K a z.length c:=h.2.shape;dsimp only at hf M N;have J:Hid _:=V;have L:Hid _:=M;have HF:Hid _:=hf;have I:Hid _:=N;clear V M hf N;have b0:Below w.heap.size w ((w.alloc (.cells #[K a0 A.length k0,K a1 z.length k1] 30)).alloc (.cells #[Q G 0,Q G 0,K none 0 0,K none 0 0] 32)):=by go_grown
 have A0:=(l w 30 #[K a0 A.length k0,K a1 z.length k1]).below (w':=(w.alloc (.cells #[K a0 A.length k0,K a1 z.length k1] 30)).alloc (.cells #[Q G 0,Q G 0,K none 0 0,K none 0 0] 32)) (by go_grown);have Rb:=l (w.alloc (.cells #[K a0 A.length k0,K a1 z.length k1] 30)) 32 #[Q G 0,Q G 0,K none 0 0,K none 0 0];simp only[World.size_alloc]at Rb;go_enter func5,ntmps5
 go_wp2_with fail
 generalize (w.alloc (.cells #[K a0 A.length k0,K a1 z.length k1] 30)).alloc (.cells #[Q G 0,Q G 0,K none 0 0,K none 0 0] 32)=W at*;refine(HF.out _ W A0 (I.out W b0)).mono ?_;rintro e w1 ⟨rfl,hb⟩;replace A0:=A0.below hb;replace Rb:=Rb.below hb;replace b0:=b0.trans (hb.mono b0.size);clear hb HF;by_cases hC:C=0
 case neg=>
  have X:(C !=0)=true:=by simpa using hC
  have y:Hid (D=C∧AN=0∧E=⟨[],[]⟩):=J.out hC;clear J L I hC A0
  go_wp2_with fail
  refine(z3j C w1).mono ?_;rintro e w2 ⟨rfl,hb⟩;replace Rb:=Rb.below hb;replace b0:=b0.trans (hb.mono b0.size);clear hb;have Rr:=Rb.row #[Q G C,Q G 0,K none 0 0,K none 0 0];have U:=z0v (w2) (w.heap.size+1) #[Q G C,Q G 0,K none 0 0,K none 0 0];have b3:=Out.keep b0 U b0.size (fun k hk=>by simp only[i]at hk;omega);have O:(R.info? 32).map (·.size)=some (#[Q G C,Q G 0,K none 0 0,K none 0 0]:Array Value).size:=by kernel_rfl
  go_wp2_with (refine z0s (by kernel_rfl) 32 _ _ rfl _ #[Q G C,Q G 0,K none 0 0,K none 0 0] rfl rfl 32 _ Rb O rfl (by simp[Value.oneCell']) ?_)
  obtain⟨r0,r1,r2,r3⟩:=Rr.cel4;exact bodyPost_ret (v:=.agg #[Q G C,Q G 0,K none 0 0,K none 0 0]) (by simp[results,results5,go_sem,r0,r1,r2,r3]) rfl ⟨q1V,by first|(rw[y.out.1,y.out.2.1];done)|(rw[y.out.1,y.out.2.1];rfl),by first|(rw[y.out.2.2];done)|(rw[y.out.2.2];rfl),(z0y _ 0).1,(z0y w 0).2.1,(z0y w w.heap.size).2.2,b3⟩
 have X:(C !=0)=false:=by simp[hC]
 have T:=L.out _ w1 A0 (I.out w1 b0) hC;clear J L I hC
 go_wp2_with fail
 refine T.mono ?_;rintro e w2 ⟨q2,rfl,e2,o2,n2,g2,hb⟩;have Z:=b0.size;have Y:=Rb.lt;replace Rb:=Rb.below hb;replace b0:=b0.trans (hb.mono b0.size);clear hb A0;obtain⟨wo,x,wm,d⟩:=q2;obtain⟨ya,yc,rfl⟩:∃a c,wo=K a x.length c:=o2.1.shape;obtain⟨za,zc,rfl⟩:∃a c,wm=K a d.length c:=o2.2.shape;have Rr:=Rb.row #[Q G D,Q G AN,K ya x.length yc,K za d.length zc];have U:=z0v (w2) (w.heap.size+1) #[Q G D,Q G AN,K ya x.length yc,K za d.length zc];have b3:=Out.keep b0 U b0.size (fun k hk=>by simp only[i]at hk;omega);have O:(R.info? 32).map (·.size)=some (#[Q G D,Q G AN,K ya x.length yc,K za d.length zc]:Array Value).size:=by kernel_rfl
 replace o2:=cluK.own_out o2 U (fun k hk=>by have:=g2 k hk;simp only[i];omega)
 go_wp2_with (refine z0s (by kernel_rfl) 32 _ _ rfl _ #[Q G D,Q G AN,K ya x.length yc,K za d.length zc] rfl rfl 32 _ Rb O rfl (by simp[Value.oneCell']) ?_)
 obtain⟨r0,r1,r2,r3⟩:=Rr.cel4;exact bodyPost_ret (v:=.agg #[Q G D,Q G AN,K ya x.length yc,K za d.length zc]) (by simp[results,results5,go_sem,r0,r1,r2,r3]) rfl ⟨(⟨K ya x.length yc,x,K za d.length zc,d⟩:CluQ),rfl,e2,o2,n2,fun k hk=>by have:=g2 k hk;omega,b3⟩
theorem Blk.outs12{w w':World}{b:Nat}{t:TypeId}{cs:Array Value}{F:List Nat}(h:Blk w b t cs)(hU:Out F w w')(hF:b∉F):Blk w' b t cs:=(hU.block b h.lt hF).trans h
theorem z5f(p:CluQ)(mo:Int)(x:CluE)(hx:p.e=x)(w:World)(h:cluK.own w p)(hl:p.n≤1048576):
  Calls R 5 #[.agg #[p.vo,p.vm],Q G mo] w fun e w'=>∃q:CluQ,e=.returned (.agg #[Q G (ofC x mo),Q G (ofA x mo),q.vo,q.vm])∧q.e=ofE x mo∧cluK.own w' q∧(cluK.foot q).Nodup∧(∀k∈cluK.foot q,w.heap.size≤k)∧Below w.heap.size w w':=by
 subst hx;exact z4k p mo w h hl
theorem z5g(p:CluQ)(mo:Int)(x:CluE)(hx:p.e=x)(w:World)(hG:Rul w)(hT:ErrT w)(h:cluK.own w p)(hl:p.n≤1048576):
  Calls R 7 #[.agg #[p.vo,p.vm],Q G mo] w fun e w'=>∃q:CluQ,e=.returned (.agg #[Q G (ofC x mo),Q G (ofA x mo),q.vo,q.vm])∧q.e=ofE x mo∧cluK.own w' q∧(cluK.foot q).Nodup∧(∀k∈cluK.foot q,w.heap.size≤k)∧Below w.heap.size w w':=by
 subst hx;exact z4j p mo w hG hT h hl
theorem q4D(p:CluQ)(mo:Int)(w:World)(hG:Rul w)(hT:ErrT w)(hp:cluK.rd w p)(hw:p.wf):
  Calls R 3 #[.agg #[p.vo,p.vm],Q G mo] w fun e w'=>e=.returned (.bool true)∧Below w.heap.size w w':=by
 have aF:=fun w h=>z9O p 1048576 w h hw (by omega) (by omega)
 have aG:=fun w h hl=>z9P p w h hl
 have aP:=fun a (ha:CluQ.e a=p.e) w h hl=>z5f a mo _ ha w h hl
 have aL:=fun a (ha:CluQ.e a=p.e) w hG hT h hl=>z5g a mo _ ha w hG hT h hl
 have aO:∀q:CluQ,q.e=ofE p.e mo→q.n≤1048576:=fun q hq=>of_n hq
 have aN:∀a:CluQ,a.e=p.e→a.n=p.n:=fun q hq=>q5R hq
 have aK:=fun(a b:CluQ) (ha:a.e=p.e) (hb:b.e=p.e) w h h' hl=>z5L a b w h h' (ha.trans hb.symm) hl
 have av:=fun(w':World) hb=>cluK.rd_below (w':=w') hp hb
 generalize ofE p.e mo=E at*;generalize ofA p.e mo=A at*;generalize ofC p.e mo=D at*;generalize a2:p.e=pe at*;generalize a6:p.n=pn at*;obtain⟨vo,ao,vm,an⟩:=p;obtain⟨a0,k0,rfl⟩:∃a c,vo=K a ao.length c:=hp.1.shape;obtain⟨a1,k1,rfl⟩:∃a c,vm=K a an.length c:=hp.2.shape;dsimp only at aF aG av;have b0:Below w.heap.size w (w.alloc (.cells #[K a0 ao.length k0,K a1 an.length k1] 25)):=by go_grown
 have A0:=l w 25 #[K a0 ao.length k0,K a1 an.length k1];have bn:=A0.lt;obtain⟨p0,p1⟩:=A0.cel2;go_enter func3,ntmps3
 go_wp2_with fail
 clear p0 p1;generalize w.alloc (.cells #[K a0 ao.length k0,K a1 an.length k1] 25)=W at*;refine(aF W (av W b0)).mono ?_;rintro e w1 ⟨r,rfl,hr,hb⟩;have bu:=hb.size;replace A0:=A0.below hb;replace b0:=b0.trans (hb.mono b0.size);clear hb;clear aF;by_cases aM:r<0
 ·go_wp2
  go_ret;exact⟨rfl,b0⟩
 have hl:((pn:Nat):Int)+r=1048576:=hr (by omega);clear hr;replace hl:pn≤1048576:=by omega
 have ad:Hid _:=aG;clear aG;have az:Hid _:=aP;clear aP;have ay:Hid _:=aL;clear aL;have ak:Hid _:=aO;clear aO;have aj:Hid _:=aN;clear aN;have aJ:Hid _:=aK;clear aK;have ab:Hid _:=av;clear av;clear a2 a6;obtain⟨p0,p1⟩:=A0.cel2
 go_wp2_with fail
 clear p0 p1;clear aM;refine(ad.out _ (ab.out _ b0) hl).mono ?_;rintro e w2 ⟨q1,rfl,e1,o1,_,_,hb⟩;have bv:=hb.size;replace A0:=A0.below hb;replace b0:=b0.trans (hb.mono b0.size);clear hb
 go_wp2_with fail
 refine(az.out q1 e1 _ o1 (by rw[aj.out q1 e1];exact hl)).mono ?_;rintro e w3 ⟨qs,rfl,es,os,ns,gs,hb⟩;have bw:=hb.size;have us:∀k∈cluK.foot qs,w2.heap.size≤k∧k<w3.heap.size:=fun k hk=>⟨gs k hk,cluK.own_lt os k hk⟩
 replace A0:=A0.below hb;replace b0:=b0.trans (hb.mono b0.size);clear hb;clear o1 e1 az gs ns;have br:CluQ.n qs≤1048576:=ak.out qs es;obtain⟨bg,L,bc,J⟩:=qs;obtain⟨ae,ag,rfl⟩:∃a c,bg=K a L.length c:=os.1.shape;obtain⟨af,ah,rfl⟩:∃a c,bc=K a J.length c:=os.2.shape;have S0:=l w3 32 #[Q G D,Q G A,K ae L.length ag,K af J.length ah];have hb:Below w3.heap.size w3 (w3.alloc (.cells #[Q G D,Q G A,K ae L.length ag,K af J.length ah] 32)):=by go_grown
 replace A0:=A0.below hb;replace os:=cluK.own_out (F:=[]) os (Vb hb) (fun _ _=>by simp);replace b0:=b0.trans (hb.mono b0.size);clear hb;obtain⟨p0,p1⟩:=A0.cel2
 go_wp2_with fail
 clear p0 p1;generalize w3.alloc (.cells #[Q G D,Q G A,K ae L.length ag,K af J.length ah] 32)=W3 at*;have bo:=S0.lt;refine(ad.out _ (ab.out _ b0) hl).mono ?_;rintro e w4 ⟨q3,rfl,e3,o3,n3,g3,hb⟩;have bx:=hb.size;have u3:∀k∈cluK.foot q3,W3.heap.size≤k∧k<w4.heap.size:=fun k hk=>⟨g3 k hk,cluK.own_lt o3 k hk⟩
 replace A0:=A0.below hb;replace S0:=S0.below hb;replace os:=cluK.own_out (F:=[]) os (Vb hb) (fun _ _=>by simp);replace b0:=b0.trans (hb.mono b0.size);clear hb;clear g3;have aD:CluQ.n q3≤1048576:=by rw[aj.out q3 e3];exact hl
 have aC:=fun w hG hT h=>ay.out q3 e3 w hG hT h aD
 have aA:=fun q' a7 w h h'=>aJ.out q3 q' e3 a7 w h h' aD
 obtain⟨bd,z,a8,y⟩:=q3;obtain⟨X,Z,rfl⟩:∃a c,bd=K a z.length c:=o3.1.shape;obtain⟨Y,aa,rfl⟩:∃a c,a8=K a y.length c:=o3.2.shape;dsimp only at aC aA;have aI:Hid _:=aC;have aH:Hid _:=aA;clear aC aA;have X0:=l w4 30 #[K X z.length Z,K Y y.length aa];have hb:Below w4.heap.size w4 (w4.alloc (.cells #[K X z.length Z,K Y y.length aa] 30)):=by go_grown
 replace A0:=A0.below hb;replace S0:=S0.below hb;replace os:=cluK.own_out (F:=[]) os (Vb hb) (fun _ _=>by simp);replace o3:=cluK.own_out (F:=[]) o3 (Vb hb) (fun _ _=>by simp);replace b0:=b0.trans (hb.mono b0.size);clear hb;obtain⟨p0,p1⟩:=X0.cel2
 go_wp2_with fail
 clear p0 p1;generalize w4.alloc (.cells #[K X z.length Z,K Y y.length aa] 30)=W4 at*;have bp:=X0.lt;refine(aI.out W4 (hG.below b0) (hT.below b0) o3).mono ?_;rintro e w5 ⟨qi,rfl,ei,oi,ni,gi,hb⟩;have bz:=hb.size;have ui:∀k∈cluK.foot qi,W4.heap.size≤k∧k<w5.heap.size:=fun k hk=>⟨gi k hk,cluK.own_lt oi k hk⟩
 replace A0:=A0.below hb;replace S0:=S0.below hb;replace X0:=X0.below hb;replace os:=cluK.own_out (F:=[]) os (Vb hb) (fun _ _=>by simp);replace o3:=cluK.own_out (F:=[]) o3 (Vb hb) (fun _ _=>by simp);replace b0:=b0.trans (hb.mono b0.size);clear hb;clear aI gi;have au:CluQ.n qi≤1048576:=ak.out qi ei;obtain⟨bf,x,bb,d⟩:=qi;obtain⟨M,O,rfl⟩:∃a c,bf=K a x.length c:=oi.1.shape;obtain⟨N,T,rfl⟩:∃a c,bb=K a d.length c:=oi.2.shape;have Y0:=l w5 32 #[Q G D,Q G A,K M x.length O,K N d.length T];have hb:Below w5.heap.size w5 (w5.alloc (.cells #[Q G D,Q G A,K M x.length O,K N d.length T] 32)):=by go_grown
 replace A0:=A0.below hb;replace S0:=S0.below hb;replace X0:=X0.below hb;replace os:=cluK.own_out (F:=[]) os (Vb hb) (fun _ _=>by simp);replace o3:=cluK.own_out (F:=[]) o3 (Vb hb) (fun _ _=>by simp);replace oi:=cluK.own_out (F:=[]) oi (Vb hb) (fun _ _=>by simp);replace b0:=b0.trans (hb.mono b0.size);clear hb;obtain⟨r0,r1,r2,r3⟩:=S0.cel4
 go_wp2_with fail
 clear r0 r1 r2 r3;generalize w5.alloc (.cells #[Q G D,Q G A,K M x.length O,K N d.length T] 32)=W5 at*;have bq:=Y0.lt;refine(q24 D A (⟨K M x.length O,x,K N d.length T,d⟩:CluQ) (⟨K ae L.length ag,L,K af J.length ah,J⟩:CluQ) _ (cluK.own_rd oi) (cluK.own_rd os) (ei.trans es.symm) au).mono ?_;rintro e w6 ⟨rfl,hb⟩;replace A0:=A0.below hb;replace S0:=S0.below hb;replace X0:=X0.below hb;replace Y0:=Y0.below hb;replace os:=cluK.own_out (F:=[]) os (Vb hb) (fun _ _=>by simp);replace o3:=cluK.own_out (F:=[]) o3 (Vb hb) (fun _ _=>by simp);replace oi:=cluK.own_out (F:=[]) oi (Vb hb) (fun _ _=>by simp);replace b0:=b0.trans (hb.mono b0.size);clear hb
 go_wp2_with fail
 have hW:Below w6.heap.size w6 w6.drew:=(Below.refl _ _).drew;have aZ:Nonempty (Lat w6):=⟨⟨w6,Below.refl _ _⟩⟩
 obtain⟨aQ,aR⟩:=A0.lts2;obtain⟨aS,aT⟩:=X0.lts2;refine z0b (S:=fun w'=>∃u:Lat w6,w'=u.val) (by kernel_rfl) ?_;refine sgr [(0,2)] 3 (by kernel_rfl) ⟨⟨_,hW⟩,rfl⟩ ?_;simp only[pkE];repeat go_big_quiet_step (fail)
 refine wpQuiet_nil ?_;refine cla 2 (some 33) 6 #[.agg #[K a0 ao.length k0,K a1 an.length k1]] 2 (by kernel_rfl) ?_;refine(ad.out _ (ab.out _ (b0.trans (hW.mono b0.size))) hl).mono ?_;rintro e w9 ⟨q9,rfl,e9,o9,_,_,al⟩;replace hW:=hW.trans (al.mono hW.size);clear al;refine⟨_,rfl,⟨⟨_,hW⟩,rfl⟩,?_⟩;simp only[f,pjE];refine cla 3 (some 34) 9 #[.agg #[K X z.length Z,K Y y.length aa],.agg #[q9.vo,q9.vm]] 1 (by kernel_rfl) ?_;refine(aH.out q9 e9 _ (cluK.rd_below (cluK.own_rd o3) hW) (cluK.own_rd o9)).mono ?_;rintro e w7 ⟨rfl,al⟩;replace hW:=hW.trans (al.mono hW.size);clear al;refine⟨_,rfl,⟨⟨_,hW⟩,rfl⟩,?_⟩;simp only[f,pjE];refine sgr [(4,1)] 0 (by kernel_rfl) ⟨⟨_,hW⟩,rfl⟩ ?_;simp only[pkE];repeat go_big_quiet_step (fail)
 refine wpQuiet_nil ?_;refine z0g (by kernel_rfl) ?_;clear aZ aQ aR aS aT e9 o9 aH;have bl:=hW.size;replace A0:=A0.below hW;replace S0:=S0.below hW;replace X0:=X0.below hW;replace Y0:=Y0.below hW;replace os:=cluK.own_out (F:=[]) os (Vb hW) (fun _ _=>by simp);replace o3:=cluK.own_out (F:=[]) o3 (Vb hW) (fun _ _=>by simp);replace oi:=cluK.own_out (F:=[]) oi (Vb hW) (fun _ _=>by simp);replace b0:=b0.trans (hW.mono b0.size);clear hW;obtain⟨p0,p1⟩:=X0.cel2
 go_wp2_with fail
 clear p0 p1;have aX:=q0G (⟨K X z.length Z,z,K Y y.length aa,y⟩:CluQ);refine(z38 (⟨K X z.length Z,z,K Y y.length aa,y⟩:CluQ) 1 w7 o3 n3 aD (by omega) (by omega)).mono ?_;rintro e w8 ⟨rfl,_,hU⟩;have bA:=hU.size;have I:∀k,k∈cluK.foot (⟨K X z.length Z,z,K Y y.length aa,y⟩:CluQ)→W3.heap.size≤k∧k<w4.heap.size:=u3;replace A0:=A0.outs12 hU (fun hk=>by have:=I _ hk;omega);replace S0:=S0.outs12 hU (fun hk=>by have:=I _ hk;omega);replace X0:=X0.outs12 hU (fun hk=>by have:=I _ hk;omega);replace Y0:=Y0.outs12 hU (fun hk=>by have:=I _ hk;omega);replace os:=cluK.own_out os hU (fun k hk am=>by have:=I _ am;have:=us k hk;omega);replace oi:=cluK.own_out oi hU (fun k hk am=>by have:=I _ am;have:=ui k hk;omega);replace b0:=Out.keep b0 hU b0.size (fun k hk=>by have:=I _ hk;omega);clear I hU;clear o3;generalize aU:(nmClu (⟨K X z.length Z,z,K Y y.length aa,y⟩:CluQ):Int)=M3 at*;have bi:0≤M3∧M3≤4194304:=by omega
 have bk:¬(1+M3<0):=by omega
 clear aX aU;obtain⟨p0,p1,p2,p3⟩:=Y0.cel4;obtain⟨r0,r1,r2,r3⟩:=S0.cel4
 go_wp2_with fail
 clear p0 p1 p2 p3;clear r0 r1 r2 r3;refine(q24 D A (⟨K M x.length O,x,K N d.length T,d⟩:CluQ) (⟨K ae L.length ag,L,K af J.length ah,J⟩:CluQ) _ (cluK.own_rd oi) (cluK.own_rd os) (ei.trans es.symm) au).mono ?_;rintro e w9 ⟨rfl,hb⟩;replace A0:=A0.below hb;replace S0:=S0.below hb;replace X0:=X0.below hb;replace Y0:=Y0.below hb;replace os:=cluK.own_out (F:=[]) os (Vb hb) (fun _ _=>by simp);replace oi:=cluK.own_out (F:=[]) oi (Vb hb) (fun _ _=>by simp);replace b0:=b0.trans (hb.mono b0.size);clear hb;obtain⟨p0,p1,p2,p3⟩:=Y0.cel4
 go_wp2_with fail
 clear p0 p1 p2 p3;have aY:=q0G (⟨K M x.length O,x,K N d.length T,d⟩:CluQ);refine(q4l D A (⟨K M x.length O,x,K N d.length T,d⟩:CluQ) 1 w9 oi ni au (by omega) (by omega)).mono ?_;rintro e ai ⟨rfl,om,hU⟩;have I:∀k,k∈cluK.foot (⟨K M x.length O,x,K N d.length T,d⟩:CluQ)→W4.heap.size≤k∧k<w5.heap.size:=ui;replace A0:=A0.outs12 hU (fun hk=>by have:=I _ hk;omega);replace S0:=S0.outs12 hU (fun hk=>by have:=I _ hk;omega);replace X0:=X0.outs12 hU (fun hk=>by have:=I _ hk;omega);replace Y0:=Y0.outs12 hU (fun hk=>by have:=I _ hk;omega);replace os:=cluK.own_out os hU (fun k hk am=>by have:=I _ am;have:=us k hk;omega);replace b0:=Out.keep b0 hU b0.size (fun k hk=>by have:=I _ hk;omega);clear I hU;clear oi;have rm:=cluK.own_rd om;clear om;have aE:Hid (∀w',Below ai.heap.size ai w'→cluK.rd w' (mkClu 1 (⟨K M x.length O,x,K N d.length T,d⟩:CluQ))):=fun w' hb=>cluK.rd_below rm hb
 have C:Below ai.heap.size ai ai:=Below.refl _ _;have aB:=fun w h=>q4m D A (⟨K M x.length O,x,K N d.length T,d⟩:CluQ) 1 w h au (by omega) (by omega)
 generalize aV:(nmClu (⟨K M x.length O,x,K N d.length T,d⟩:CluQ):Int)=Mi at*;have bj:0≤Mi∧Mi≤3145728:=by omega
 have bt:¬(1+Mi<0):=by omega
 have bs:((1+Mi) !=(1+Mi))=false:=by simp
 clear aY aV rm;obtain⟨p0,p1,p2,p3⟩:=Y0.cel4
 go_wp2_with fail
 clear p0 p1 p2 p3;refine(aB ai (aE.out _ C)).mono ?_;rintro e bB ⟨rfl,hb⟩;replace C:=C.trans (hb.mono C.size);replace A0:=A0.below hb;replace S0:=S0.below hb;replace X0:=X0.below hb;replace Y0:=Y0.below hb;replace os:=cluK.own_out (F:=[]) os (Vb hb) (fun _ _=>by simp);replace b0:=b0.trans (hb.mono b0.size);clear hb;obtain⟨p0,p1⟩:=A0.cel2
 go_wp2_with fail
 clear p0 p1;refine(ad.out _ (ab.out _ b0) hl).mono ?_;rintro e bC ⟨q5,rfl,e5,o5,_,_,hb⟩;replace C:=C.trans (hb.mono C.size);replace A0:=A0.below hb;replace S0:=S0.below hb;replace X0:=X0.below hb;replace Y0:=Y0.below hb;replace os:=cluK.own_out (F:=[]) os (Vb hb) (fun _ _=>by simp);replace b0:=b0.trans (hb.mono b0.size);clear hb
 go_wp2_with fail
 refine(ay.out q5 e5 _ (hG.below b0) (hT.below b0) o5 (by rw[aj.out q5 e5];exact hl)).mono ?_;rintro e ap ⟨qh,rfl,eh,oh,_,_,hb⟩;replace C:=C.trans (hb.mono C.size);replace A0:=A0.below hb;replace S0:=S0.below hb;replace X0:=X0.below hb;replace Y0:=Y0.below hb;replace os:=cluK.own_out (F:=[]) os (Vb hb) (fun _ _=>by simp);replace b0:=b0.trans (hb.mono b0.size);clear hb;clear o5 e5;have aW:CluQ.n qh≤1048576:=ak.out qh eh;obtain⟨be,V,ba,U⟩:=qh;obtain⟨aq,aw,rfl⟩:∃a c,be=K a V.length c:=oh.1.shape;obtain⟨ar,ax,rfl⟩:∃a c,ba=K a U.length c:=oh.2.shape;have H0:=l ap 32 #[Q G D,Q G A,K aq V.length aw,K ar U.length ax];have hb:Below ap.heap.size ap (ap.alloc (.cells #[Q G D,Q G A,K aq V.length aw,K ar U.length ax] 32)):=by go_grown
 replace C:=C.trans (hb.mono C.size);replace A0:=A0.below hb;replace S0:=S0.below hb;replace X0:=X0.below hb;replace Y0:=Y0.below hb;replace os:=cluK.own_out (F:=[]) os (Vb hb) (fun _ _=>by simp);replace oh:=cluK.own_out (F:=[]) oh (Vb hb) (fun _ _=>by simp);replace b0:=b0.trans (hb.mono b0.size);clear hb;obtain⟨r0,r1,r2,r3⟩:=S0.cel4
 go_wp2_with fail
 clear r0 r1 r2 r3;generalize ap.alloc (.cells #[Q G D,Q G A,K aq V.length aw,K ar U.length ax] 32)=bm at*;refine(q24 D A (⟨K aq V.length aw,V,K ar U.length ax,U⟩:CluQ) (⟨K ae L.length ag,L,K af J.length ah,J⟩:CluQ) _ (cluK.own_rd oh) (cluK.own_rd os) (eh.trans es.symm) aW).mono ?_;rintro e bh ⟨rfl,hb⟩;replace C:=C.trans (hb.mono C.size);replace A0:=A0.below hb;replace S0:=S0.below hb;replace X0:=X0.below hb;replace Y0:=Y0.below hb;replace os:=cluK.own_out (F:=[]) os (Vb hb) (fun _ _=>by simp);replace oh:=cluK.own_out (F:=[]) oh (Vb hb) (fun _ _=>by simp);replace b0:=b0.trans (hb.mono b0.size);clear hb;clear H0;obtain⟨p0,p1,p2,p3⟩:=Y0.cel4
 go_wp2_with fail
 clear p0 p1 p2 p3;refine(aB bh (aE.out _ C)).mono ?_;rintro e bD ⟨rfl,hb⟩;replace b0:=b0.trans (hb.mono b0.size);clear hb aB aE C S0 Y0 X0 A0 os oh
 go_wp2
 go_ret;exact⟨rfl,b0⟩
end Go.Proofs.YtdppipeclnldeaaGreatDoor

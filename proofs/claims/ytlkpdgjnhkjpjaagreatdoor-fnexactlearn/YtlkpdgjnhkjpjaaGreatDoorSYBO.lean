import Derived.Test.YtlkpdgjnhkjpjaaGreatDoorSYBN
set_option linter.unusedVariables false
set_option linter.unusedSimpArgs false
set_option maxRecDepth 100000
set_option maxHeartbeats 8000000
namespace Go.Proofs.YtlkpdgjnhkjpjaaGreatDoor
open Go.RowKit Go.BigFrame
open TxnQ renaming e->R,n->H
open List renaming mem_singleton->E
open Out renaming setCell->B
open IntKind renaming i64->G
open Value renaming int->F,slice->D
open Go.Proofs.Tryz renaming prog->Q
open Go.Proofs.Tryz
def plN(ds ds':List TxnD):Int:=if bthF ds ds'=0 then(comN ds ds':Int)else 0
def plB(ds ds':List TxnD):Int:=if bthF ds ds'=0 then(if ds'.drop (comN ds ds')=[]then 0 else((ds.drop (comN ds ds')).length:Int))else 0
def plA(ds ds':List TxnD):List TxnD:=if bthF ds ds'=0 then ds'.drop (comN ds ds')else []
def plK(ds ds':List TxnD):List TxnD:=if bthF ds ds'=0 then(if ds'.drop (comN ds ds')=[]then ds.drop (comN ds ds')else z5r (ds.drop (comN ds ds')) ds')else []
theorem q4C{ds ds':List TxnD}(h:bthF ds ds'≠0):plN ds ds'=0∧plB ds ds'=0∧plA ds ds'=[]∧plK ds ds'=[]:=⟨if_neg h,if_neg h,if_neg h,if_neg h⟩
theorem q4D{ds ds':List TxnD}(h:bthF ds ds'=0)(h1:ds'.drop (comN ds ds')=[]):plN ds ds'=(comN ds ds':Int)∧plB ds ds'=0∧plA ds ds'=[]∧plK ds ds'=ds.drop (comN ds ds'):=by
 unfold plN plB plA plK;rw[if_pos h,if_pos h,if_pos h,if_pos h,if_pos h1,if_pos h1,h1];exact⟨rfl,rfl,rfl,rfl⟩
theorem q4E{ds ds':List TxnD}(h:bthF ds ds'=0)(h1:ds'.drop (comN ds ds')≠[]):plN ds ds'=(comN ds ds':Int)∧plB ds ds'=((ds.drop (comN ds ds')).length:Int)∧plA ds ds'=ds'.drop (comN ds ds')∧plK ds ds'=z5r (ds.drop (comN ds ds')) ds':=by
 unfold plN plB plA plK;rw[if_pos h,if_pos h,if_pos h,if_pos h,if_neg h1,if_neg h1];exact⟨rfl,rfl,rfl,rfl⟩
theorem q0y(ps:List TxnQ)(n:Nat):(ps.drop n).length+nmL H (ps.drop n)≤ps.length+nmL H ps:=by
 have e:nmL H ps=nmL H (ps.take n)+nmL H (ps.drop n):=by
  conv=>lhs;rw[←List.take_append_drop n ps]
  simp only[nmL,List.map_append,List.sum_append]
 rw[List.length_drop];omega
theorem z6d:(Q.info? 216).map (·.size)=some 5:=by kernel_rfl
theorem z3y(w:World):txnK.Own w (D none 0 0) ([]:List TxnQ)∧txnK.fp (D none 0 0) ([]:List TxnQ)=[]:=Kind.own_nil (K:=txnK) w
theorem z6y(v v':Value)(ps c:List TxnQ)(w:World)(h:txnK.At w v ps)(h':txnK.At w v' c)(bg:z2F v)(aR:z2F v')(hl:ps.length+nmL H ps≤1048576)(bi:c.length+nmL H c≤1048576):
  Calls Q 156 #[v,v'] w fun e w'=>∃ (v1 v2:Value) (q1 q2:List TxnQ),e=.returned (.agg #[F G (bthF (ps.map R) (c.map R)),F G (plN (ps.map R) (c.map R)),F G (plB (ps.map R) (c.map R)),v1,v2])∧q1.map R=plA (ps.map R) (c.map R)∧q2.map R=plK (ps.map R) (c.map R)∧txnK.Own w' v1 q1∧txnK.Own w' v2 q2∧(txnK.fp v1 q1++txnK.fp v2 q2).Nodup∧(∀k∈txnK.fp v1 q1++txnK.fp v2 q2,w.heap.size≤k)∧Below w.heap.size w w':=by
 have HV:Hid (bthF (ps.map R) (c.map R)≠0→plN (ps.map R) (c.map R)=0∧plB (ps.map R) (c.map R)=0∧plA (ps.map R) (c.map R)=[]∧plK (ps.map R) (c.map R)=[]):=fun h0=>q4C h0
 have aD:Hid (bthF (ps.map R) (c.map R)=0→(c.map R).drop (comN (ps.map R) (c.map R))=[]→plN (ps.map R) (c.map R)=(comN (ps.map R) (c.map R):Int)∧plB (ps.map R) (c.map R)=0∧plA (ps.map R) (c.map R)=[]∧plK (ps.map R) (c.map R)=(ps.map R).drop (comN (ps.map R) (c.map R))):=fun h0 h1=>q4D h0 h1
 have aE:Hid (bthF (ps.map R) (c.map R)=0→(c.map R).drop (comN (ps.map R) (c.map R))≠[]→plN (ps.map R) (c.map R)=(comN (ps.map R) (c.map R):Int)∧plB (ps.map R) (c.map R)=(((ps.map R).drop (comN (ps.map R) (c.map R))).length:Int)∧plA (ps.map R) (c.map R)=(c.map R).drop (comN (ps.map R) (c.map R))∧plK (ps.map R) (c.map R)=z5r ((ps.map R).drop (comN (ps.map R) (c.map R))) (c.map R)):=fun h0 h1=>q4E h0 h1
 have HL:Hid (bthF (ps.map R) (c.map R)=0→ps.length≤40∧c.length≤40∧(∀p∈ps,0<p.acts.length)∧(∀p∈c,0<p.acts.length)):=fun h0=>⟨by simpa using(z6c (z1E h0).1).1,by simpa using(z6c (z1E h0).2).1,z7R (z1E h0).1,z7R (z1E h0).2⟩
 have bk:comN (ps.map R) (c.map R)≤ps.length:=by simpa using(q0x (ps.map R) (c.map R)).1
 have bl:comN (ps.map R) (c.map R)≤c.length:=by simpa using(q0x (ps.map R) (c.map R)).2
 have aC:Hid (bthF (ps.map R) (c.map R)=0→cmV (ps.map R) (c.map R)=(comN (ps.map R) (c.map R):Int)):=fun h0=>if_pos h0
 have hB:Below w.heap.size w (w.alloc (.cells #[F G 0,F G 0,F G 0,D none 0 0,D none 0 0] 216)):=by go_grown
 have Rb:=Blk.new w 216 #[F G 0,F G 0,F G 0,D none 0 0,D none 0 0];have hq:=z5b v v' ps c (w.alloc (.cells #[F G 0,F G 0,F G 0,D none 0 0,D none 0 0] 216)) (h.below hB) (h'.below hB) hl bi;obtain⟨a,cap,rfl⟩:=h.shape;obtain⟨a',I,rfl⟩:=h'.shape;generalize bthF (ps.map R) (c.map R)=C at*;generalize plN (ps.map R) (c.map R)=VN at*;generalize plB (ps.map R) (c.map R)=VB at*;generalize plA (ps.map R) (c.map R)=VA at*;generalize plK (ps.map R) (c.map R)=VK at*;generalize cmV (ps.map R) (c.map R)=CV at*;go_enter func156,ntmps156
 go_wp2_with fail
 refine hq.mono ?_;rintro e w1 ⟨rfl,aJ⟩;replace hB:=hB.trans (aJ.mono hB.size);replace Rb:=Rb.below aJ;clear hq aJ;have aK:Below w1.heap.size w1 (w1.alloc (.cells #[F G C,F G CV] 53)):=by go_grown
 have Cb:=Blk.new w1 53 #[F G C,F G CV];have bt:=hB;replace hB:=hB.trans (aK.mono hB.size);have bw:w.heap.size<w1.heap.size:=Rb.lt;have br:=Rb;replace Rb:=Rb.below aK;clear aK;by_cases hC:C=0
 ·have ar:=aD.out hC;have au:=aE.out hC;have aF:Hid _:=ar;have aG:Hid _:=au;have bh:=aC.out hC;obtain⟨bs,bp,aV,aN⟩:=HL.out hC;subst hC;subst bh;clear HV aD aE ar au aC HL;generalize comN (ps.map R) (c.map R)=n at*;have aL:=fun w (h:txnK.At w (D a ps.length cap) ps) c'=>h.dropS n bk bg.1 c'
  have aM:=fun w (h:txnK.At w (D a' c.length I) c) c'=>h.dropS n bl aR.1 c'
  obtain⟨rs,O⟩:∃rs,rs=ps.drop n:=⟨_,rfl⟩
  obtain⟨z,L⟩:∃z,z=c.drop n:=⟨_,rfl⟩
  have aO:Hid (rs.map R=(ps.map R).drop n):=show _=_ by rw[O,List.map_drop]
  have T:Hid (z.map R=(c.map R).drop n):=show _=_ by rw[L,List.map_drop]
  have bj:rs.length+nmL H rs≤1048576:=by rw[O];have:=q0y ps n;omega
  have aS:z.length+nmL H z≤1048576:=by rw[L];have:=q0y c n;omega
  have aW:∀p∈rs,0<p.acts.length:=fun p hp=>aV p (List.mem_of_mem_drop (by rw[←O];exact hp))
  have aX:∀p∈z,0<p.acts.length:=fun p hp=>aN p (List.mem_of_mem_drop (by rw[←L];exact hp))
  have ae:rs.length=ps.length-n:=by rw[O,List.length_drop]
  have ax:z.length=c.length-n:=by rw[L,List.length_drop]
  rw[←O]at aL;rw[←L]at aM;have af:(0:Int)≤(n:Int):=by omega
  have ay:(n:Int)≤(ps.length:Int):=by omega
  have az:(n:Int)≤(c.length:Int):=by omega
  obtain⟨ra,rc,ap,aQ⟩:∃ra rc,(∀u:World,(Instr.sliceAt 25 (D a ps.length cap) (some (F G n)) none none).run Q u=.ok (D ra rs.length rc) u)∧(∀w,txnK.At w (D a ps.length cap) ps→txnK.At w (D ra rs.length rc) rs):=by
   refine⟨_,_,fun u=>?_,fun w h=>aL w h (cap-n)⟩;rw[run_sliceAt_slice u 25 _ _ _ _ (by kernel_rfl),run_slice_l u 25 a ps.length cap (by kernel_rfl) .i64 (n:Int) af ay,ae];rfl
  obtain⟨a1,a2,aq,bf⟩:∃ra rc,(∀u:World,(Instr.sliceAt 25 (D a' c.length I) (some (F G n)) none none).run Q u=.ok (D ra z.length rc) u)∧(∀w,txnK.At w (D a' c.length I) c→txnK.At w (D ra z.length rc) z):=by
   refine⟨_,_,fun u=>?_,fun w h=>aM w h (I-n)⟩;rw[run_sliceAt_slice u 25 _ _ _ _ (by kernel_rfl),run_slice_l u 25 a' c.length I (by kernel_rfl) .i64 (n:Int) af az,ax];rfl
  have aY:rs.length≤40:=by omega
  have ba:Hid (((ps.map R).drop n).length=rs.length):=show _=_ by rw[List.length_drop,List.length_map,ae]
  clear aL aM af ay az O L ae ax;obtain⟨c0,c1⟩:=Cb.cel2
  go_wp2_with fail
  clear c0 c1;have bv:w1.heap.size<(w1.alloc (.cells #[F G 0,F G n] 53)).heap.size:=by simp
  generalize w1.alloc (.cells #[F G 0,F G n] 53)=X at*;obtain⟨c0,c1⟩:=Cb.lts2;have hW:Below X.heap.size X X.drew:=(Below.refl _ _).drew;have bm:Nonempty (Lat X):=⟨⟨X,Below.refl _ _⟩⟩
  replace ap:∀u:Lat X,_:=fun u=>ap u.val
  replace aq:∀u:Lat X,_:=fun u=>aq u.val
  refine z0b (S:=fun w'=>∃u:Lat X,w'=u.val) (by kernel_rfl) ?_;refine sgr [(0,3),(4,3)] 4 (by kernel_rfl) ⟨⟨_,hW⟩,rfl⟩ ?_;simp only[pkE];repeat go_big_quiet_step (fail)
  refine wpQuiet_nil ?_;refine qta 3 (some 21) (D ra rs.length rc) 3 (by kernel_rfl) (fun u hu=>?_) ⟨⟨_,hW⟩,rfl⟩ ?_
  ·obtain⟨u,rfl⟩:=hu;refine Eq.trans (b:=some (((Instr.sliceAt 25 (D a ps.length cap) (some (F G n)) none none)>>=fun x=>pure (Next.value x):Sem Next).run Q u.val)) (by kernel_rfl) ?_;rw[Sem.run_bind,ap u];rfl
  simp only[Act.put,pjE];refine qta 7 (some 25) (D a1 z.length a2) 2 (by kernel_rfl) (fun u hu=>?_) ⟨⟨_,hW⟩,rfl⟩ ?_
  ·obtain⟨u,rfl⟩:=hu;refine Eq.trans (b:=some (((Instr.sliceAt 25 (D a' c.length I) (some (F G n)) none none)>>=fun x=>pure (Next.value x):Sem Next).run Q u.val)) (by kernel_rfl) ?_;rw[Sem.run_bind,aq u];rfl
  simp only[Act.put,pjE];refine sgr [(8,2)] 0 (by kernel_rfl) ⟨⟨_,hW⟩,rfl⟩ ?_;simp only[pkE];repeat go_big_quiet_step (fail)
  refine wpQuiet_nil ?_;refine z0e (by kernel_rfl) ?_;clear c0 c1 bm ap aq;replace hB:=hB.trans (hW.mono hB.size);replace Rb:=Rb.below hW;replace Cb:=Cb.below hW;have bq:=hW.size;clear hW;generalize X.drew=Y at*;obtain⟨c0,c1⟩:=Cb.cel2;have Pb:=Blk.new Y 216 #[F G 0,F G n,F G 0,D none 0 0,D none 0 0];have N:Below Y.heap.size Y (Y.alloc (.cells #[F G 0,F G n,F G 0,D none 0 0,D none 0 0] 216)):=by go_grown
  have d:=hB.trans (N.mono hB.size);have A:=Rb.below N;have bx:=Rb.lt;have aZ:Y.heap.size<(Y.alloc (.cells #[F G 0,F G n,F G 0,D none 0 0,D none 0 0] 216)).heap.size:=by simp
  have an:=hB;have aH:=Rb;clear hB Rb N;by_cases hz:z=[]
  ·-- CUT1
   subst hz;clear an aH;obtain⟨e1,e2,e3,e4⟩:=aF.out T.out.symm;clear aF aG;have ab:=fun w h=>z1j (D ra rs.length rc) rs w h aW bj
   go_wp2_with fail
   clear c0 c1;generalize Y.alloc (.cells #[F G 0,F G n,F G 0,D none 0 0,D none 0 0] 216)=Z at*;generalize Y.heap.size=pb at*;refine(ab Z (aQ Z (h.below d))).mono ?_;rintro e w3 ⟨v3,q3,rfl,V,o3,n3,g3,J⟩;obtain⟨a3,c3,rfl⟩:=o3.shape;replace Pb:=Pb.below J;replace A:=A.below J;replace d:=d.trans (J.mono d.size);clear ab J;have bn:pb≠w.heap.size:=by omega
   have ao:w.heap.size≠pb:=by omega
   have E4:Hid (q3.map R=VK):=show _=_ by rw[e4,V,aO.out]
   have E1:Hid (VN=(n:Int)∧VB=0∧VA=[]):=⟨e1,e2,e3⟩
   clear e1 e2 e3 e4 V;have aT:∀k∈txnK.fp (D a3 q3.length c3) q3,k∉[pb]∧k∉[w.heap.size]:=fun k hk=>by have:=g3 k hk;simp only[E];omega
   have g4:∀k∈txnK.fp (D a3 q3.length c3) q3,w.heap.size≤k:=fun k hk=>by have:=g3 k hk;omega
   have p0:=Pb.cell 0 _ rfl;have bb:=Pb.frozen 0;have p1:=Pb.cell 1 _ rfl;have bc:=Pb.frozen 1;have p2:=Pb.cell 2 _ rfl;have bd:=Pb.frozen 2;have p3:=Pb.cell 3 _ rfl;have aI:=Pb.frozen 3;have p4:=Pb.cell 4 _ rfl;have be:=Pb.frozen 4;have U:=A.other8 (g:=pb) (j:=4) (u:=D a3 q3.length c3) ao;have KQ:=d.setCell (p:=⟨pb,4,none⟩) (show w.heap.size≤pb by omega) (D a3 q3.length c3);have KF:=z0j KQ (Nat.le_refl w.heap.size) #[F G 0,F G n,F G 0,D none 0 0,D a3 q3.length c3];have O5:Hid _:=(o3.out (B w3 pb 4 (D a3 q3.length c3)) (fun k hk=>(aT k hk).1)).out (z0A _ w.heap.size #[F G 0,F G n,F G 0,D none 0 0,D a3 q3.length c3]) (fun k hk=>(aT k hk).2);have Rr:=U.row #[F G 0,F G n,F G 0,D none 0 0,D a3 q3.length c3]
   go_wp2_with (first|(refine z0r (by kernel_rfl) 216 _ _ rfl _ #[F G 0,F G n,F G 0,D none 0 0,D a3 q3.length c3] rfl rfl 216 _ U z6d rfl (by simp[Value.oneCell']) ?_))
   obtain⟨ai,aj,ak,al,am⟩:=Rr.cel5;refine bodyPost_ret (v:=.agg #[F G 0,F G n,F G 0,D none 0 0,D a3 q3.length c3]) (by simp[results,results156,go_sem,ai,aj,ak,al,am]) rfl ?_;refine⟨D none 0 0,D a3 q3.length c3,[],q3,?_,?_,E4.out,(z3y _).1,O5.out,?_,?_,KF⟩
   ·rw[E1.out.1,E1.out.2.1]
   ·rw[E1.out.2.2];rfl
   ·rw[(z3y w).2];exact n3
   ·rw[(z3y w).2];exact g4
  ·obtain⟨e1,e2,e3,e4⟩:=aG.out (by rw[←T.out];simpa using hz);have bA:0<z.length:=List.length_pos_iff.2 hz;have bB:¬z.length=0:=by omega
   have bC:((z.length:Int)==0)=false:=by simp;omega
   rw[ba.out]at e2;have E1:Hid (VN=(n:Int)∧VB=(rs.length:Int)):=⟨e1,e2⟩
   have E3:Hid (VA=(c.map R).drop n):=e3;have E4:Hid (VK=z5r ((ps.map R).drop n) (c.map R)):=e4;clear aF aG e1 e2 e3 e4 hz Pb d A aZ;have ab:=fun w h=>z1j (D a1 z.length a2) z w h aX aS
   have aU:=fun w h h'=>z9Y (D ra rs.length rc) (D a' c.length I) rs c w h h' aY (by omega)
   have ad:=fun v w h=>z1j v (witQ rs (c.map R)) w h (fun p hp=>aW p (q3i hp)) (by have:=q63 rs (c.map R);omega)
   rw[q5J]at ad;have Pb:=Blk.new Y 216 #[F G 0,F G n,F G rs.length,D none 0 0,D none 0 0];have N:Below Y.heap.size Y (Y.alloc (.cells #[F G 0,F G n,F G rs.length,D none 0 0,D none 0 0] 216)):=by go_grown
   have d:=an.trans (N.mono an.size);have A:=aH.below N;have aZ:Y.heap.size<(Y.alloc (.cells #[F G 0,F G n,F G rs.length,D none 0 0,D none 0 0] 216)).heap.size:=by simp
   clear N an aH
   go_wp2_with fail
   clear c0 c1;generalize Y.alloc (.cells #[F G 0,F G n,F G rs.length,D none 0 0,D none 0 0] 216)=Z at*;generalize Y.heap.size=pb at*;refine(ab Z (bf Z (h'.below d))).mono ?_;rintro e w3 ⟨v3,q3,rfl,V,o3,n3,g3,J⟩;obtain⟨a3,c3,rfl⟩:=o3.shape;have bn:pb≠w.heap.size:=by omega
   have ao:w.heap.size≠pb:=by omega
   have bo:=J.size;have l3:=o3.lt;replace Pb:=Pb.below J;replace A:=A.below J;replace d:=d.trans (J.mono d.size);clear ab J;have a7:Hid (q3.map R=VA):=show _=_ by rw[E3.out,V,T.out]
   clear V E3;have p3:=Pb.cell 3 _ rfl;have aI:=Pb.frozen 3;replace Pb:=Pb.putA 3 (D a3 q3.length c3);replace A:=A.other8 (g:=pb) (j:=3) (u:=D a3 q3.length c3) ao;replace d:=d.setCell (p:=⟨pb,3,none⟩) (show w.heap.size≤pb by omega) (D a3 q3.length c3);have ag:∀k∈txnK.fp (D a3 q3.length c3) q3,k∉[pb]∧k∉[w.heap.size]:=fun k hk=>by have:=g3 k hk;simp only[E];omega
   replace o3:=o3.out (B w3 pb 3 (D a3 q3.length c3)) (fun k hk=>(ag k hk).1);have aB:w3.heap.size=(w3.setCell ⟨pb,3,none⟩ (D a3 q3.length c3)).heap.size:=by simp
   go_wp2_with fail
   clear p3 aI;generalize w3.setCell ⟨pb,3,none⟩ (D a3 q3.length c3)=w4 at*;rw[aB]at l3 bo;clear aB;simp only[pjE]at Pb;have W:=aQ w4 (h.below d);refine(aU w4 W (h'.below d)).mono ?_;rintro e w5 ⟨v5,rfl,ah,M⟩;replace W:=W.below M;have av:txnK.At w5 v5 (witQ rs (c.map R)):=Kind.at_of_row ah (fun q hq=>W.rdm (q3i hq));obtain⟨a5,c5,rfl⟩:=z0f ah;replace Pb:=Pb.below M;replace A:=A.below M;replace d:=d.trans (M.mono d.size);replace o3:=o3.below M;have bz:=M.size;have aw:=ad (.slice a5 (witQ rs (c.map R)).length c5) w5 av;clear aU M ah av W ad;generalize witQ rs (c.map R)=wq at*
   go_wp2_with fail
   refine aw.mono ?_;rintro e w6 ⟨v6,q6,rfl,aP,o6,n6,g6,aa⟩;obtain⟨a6,c6,rfl⟩:=o6.shape;replace Pb:=Pb.below aa;replace A:=A.below aa;replace d:=d.trans (aa.mono d.size);replace o3:=o3.below aa;have a8:Hid (q6.map R=VK):=show _=_ by rw[E4.out,aP,aO.out]
   clear aP E4 aw aa;have aA:∀k∈txnK.fp (D a6 q6.length c6) q6,k∉[pb]∧k∉[w.heap.size]:=fun k hk=>by have:=g6 k hk;simp only[E];omega
   have gA:∀k∈txnK.fp (D a3 q3.length c3) q3++txnK.fp (D a6 q6.length c6) q6,w.heap.size≤k:=fun k hk=>by
    rcases List.mem_append.1 hk with hk|hk
    ·have:=g3 k hk;omega
    ·have:=g6 k hk;omega
   have nA:(txnK.fp (D a3 q3.length c3) q3++txnK.fp (D a6 q6.length c6) q6).Nodup:=List.nodup_append.2 ⟨n3,n6,fun x hx y hy e=>by have:=l3 x hx;have:=g6 y hy;omega⟩;have p0:=Pb.cell 0 _ rfl;have bb:=Pb.frozen 0;have p1:=Pb.cell 1 _ rfl;have bc:=Pb.frozen 1;have p2:=Pb.cell 2 _ rfl;have bd:=Pb.frozen 2;have p3:=Pb.cell 3 _ rfl;have aI:=Pb.frozen 3;have p4:=Pb.cell 4 _ rfl;have be:=Pb.frozen 4;have U:=A.other8 (g:=pb) (j:=4) (u:=D a6 q6.length c6) ao;have KQ:=d.setCell (p:=⟨pb,4,none⟩) (show w.heap.size≤pb by omega) (D a6 q6.length c6);have KF:=z0j KQ (Nat.le_refl w.heap.size) #[F G 0,F G n,F G rs.length,D a3 q3.length c3,D a6 q6.length c6];have O3:Hid _:=(o3.out (B w6 pb 4 (D a6 q6.length c6)) (fun k hk=>(ag k hk).1)).out (z0A _ w.heap.size #[F G 0,F G n,F G rs.length,D a3 q3.length c3,D a6 q6.length c6]) (fun k hk=>(ag k hk).2);have O6:Hid _:=(o6.out (B w6 pb 4 (D a6 q6.length c6)) (fun k hk=>(aA k hk).1)).out (z0A _ w.heap.size #[F G 0,F G n,F G rs.length,D a3 q3.length c3,D a6 q6.length c6]) (fun k hk=>(aA k hk).2);have Rr:=U.row #[F G 0,F G n,F G rs.length,D a3 q3.length c3,D a6 q6.length c6]
   go_wp2_with (first|(refine z0r (by kernel_rfl) 216 _ _ rfl _ #[F G 0,F G n,F G rs.length,D a3 q3.length c3,D a6 q6.length c6] rfl rfl 216 _ U z6d rfl (by simp[Value.oneCell']) ?_))
   obtain⟨ai,aj,ak,al,am⟩:=Rr.cel5;refine bodyPost_ret (v:=.agg #[F G 0,F G n,F G rs.length,D a3 q3.length c3,D a6 q6.length c6]) (by simp[results,results156,go_sem,ai,aj,ak,al,am]) rfl ?_;refine⟨D a3 q3.length c3,D a6 q6.length c6,q3,q6,?_,a7.out,a8.out,O3.out,O6.out,nA,gA,KF⟩;rw[E1.out.1,E1.out.2]
 ·obtain⟨e1,e2,e3,e4⟩:=HV.out hC;have E1:Hid (VN=0∧VB=0∧VA=[]∧VK=[]):=⟨e1,e2,e3,e4⟩
  obtain⟨c0,c1⟩:=Cb.cel2;clear HV aD aE aC HL e1 e2 e3 e4;have bu:(C !=0)=true:=by simpa using hC
  have KF:=z0j hB (Nat.le_refl w.heap.size) #[F G C,F G 0,F G 0,D none 0 0,D none 0 0];have Rr:=Rb.row #[F G C,F G 0,F G 0,D none 0 0,D none 0 0]
  go_wp2_with (first|(refine z0r (by kernel_rfl) 216 _ _ rfl _ #[F G C,F G 0,F G 0,D none 0 0,D none 0 0] rfl rfl 216 _ Rb z6d rfl (by simp[Value.oneCell']) ?_))
  obtain⟨ai,aj,ak,al,am⟩:=Rr.cel5;refine bodyPost_ret (v:=.agg #[F G C,F G 0,F G 0,D none 0 0,D none 0 0]) (by simp[results,results156,go_sem,ai,aj,ak,al,am]) rfl ?_;refine⟨D none 0 0,D none 0 0,[],[],?_,?_,?_,(z3y _).1,(z3y _).1,?_,?_,KF⟩
  ·rw[E1.out.1,E1.out.2.1]
  ·rw[E1.out.2.2.1];rfl
  ·rw[E1.out.2.2.2];rfl
  ·rw[(z3y w).2];simp
  ·rw[(z3y w).2];simp
theorem q1w(v v':Value)(ps c:List TxnQ)(w:World)(h:txnK.At w v ps)(h':txnK.At w v' c)(aW:z2F v)(aE:z2F v')(hl:ps.length+nmL H ps≤1048576)(aX:c.length+nmL H c≤1048576)(hC:bthF (ps.map R) (c.map R)=0):
  Calls Q 179 #[v,v'] w fun e w'=>∃ (v1 v2:Value) (q1 q2:List TxnQ),e=.returned (.agg #[F G 0,F G (plN (ps.map R) (c.map R)),F G (plB (ps.map R) (c.map R)),v1,v2])∧q1.map R=plA (ps.map R) (c.map R)∧q2.map R=plK (ps.map R) (c.map R)∧txnK.Own w' v1 q1∧txnK.Own w' v2 q2∧(txnK.fp v1 q1++txnK.fp v2 q2).Nodup∧(∀k∈txnK.fp v1 q1++txnK.fp v2 q2,w.heap.size≤k)∧Below w.heap.size w w':=by
 have HV:Hid (bthF (ps.map R) (c.map R)≠0→plN (ps.map R) (c.map R)=0∧plB (ps.map R) (c.map R)=0∧plA (ps.map R) (c.map R)=[]∧plK (ps.map R) (c.map R)=[]):=fun h0=>q4C h0
 have az:Hid (bthF (ps.map R) (c.map R)=0→(c.map R).drop (comN (ps.map R) (c.map R))=[]→plN (ps.map R) (c.map R)=(comN (ps.map R) (c.map R):Int)∧plB (ps.map R) (c.map R)=0∧plA (ps.map R) (c.map R)=[]∧plK (ps.map R) (c.map R)=(ps.map R).drop (comN (ps.map R) (c.map R))):=fun h0 h1=>q4D h0 h1
 have aA:Hid (bthF (ps.map R) (c.map R)=0→(c.map R).drop (comN (ps.map R) (c.map R))≠[]→plN (ps.map R) (c.map R)=(comN (ps.map R) (c.map R):Int)∧plB (ps.map R) (c.map R)=(((ps.map R).drop (comN (ps.map R) (c.map R))).length:Int)∧plA (ps.map R) (c.map R)=(c.map R).drop (comN (ps.map R) (c.map R))∧plK (ps.map R) (c.map R)=z5r ((ps.map R).drop (comN (ps.map R) (c.map R))) (c.map R)):=fun h0 h1=>q4E h0 h1
 have HL:Hid (bthF (ps.map R) (c.map R)=0→ps.length≤40∧c.length≤40∧(∀p∈ps,0<p.acts.length)∧(∀p∈c,0<p.acts.length)):=fun h0=>⟨by simpa using(z6c (z1E h0).1).1,by simpa using(z6c (z1E h0).2).1,z7R (z1E h0).1,z7R (z1E h0).2⟩
 have aZ:comN (ps.map R) (c.map R)≤ps.length:=by simpa using(q0x (ps.map R) (c.map R)).1
 have a1:comN (ps.map R) (c.map R)≤c.length:=by simpa using(q0x (ps.map R) (c.map R)).2
 have hB:Below w.heap.size w (w.alloc (.cells #[F G 0,F G 0,F G 0,D none 0 0,D none 0 0] 216)):=by go_grown
 have Rb:=Blk.new w 216 #[F G 0,F G 0,F G 0,D none 0 0,D none 0 0];have hq:=z84 v v' ps c (w.alloc (.cells #[F G 0,F G 0,F G 0,D none 0 0,D none 0 0] 216)) (h.below hB) (h'.below hB) hl aX;obtain⟨a,cap,rfl⟩:=h.shape;obtain⟨a',I,rfl⟩:=h'.shape;have ad:=az.out hC;have ae:=aA.out hC;have ak:Hid _:=ad;have al:Hid _:=ae;obtain⟨be,bd,aL,aq⟩:=HL.out hC;clear HV az aA ad ae HL hC;generalize plN (ps.map R) (c.map R)=VN at*;generalize plB (ps.map R) (c.map R)=VB at*;generalize plA (ps.map R) (c.map R)=VA at*;generalize plK (ps.map R) (c.map R)=VK at*;generalize comN (ps.map R) (c.map R)=n at*;have ao:=fun w (h:txnK.At w (D a ps.length cap) ps) c'=>h.dropS n aZ aW.1 c'
 have ap:=fun w (h:txnK.At w (D a' c.length I) c) c'=>h.dropS n a1 aE.1 c'
 obtain⟨rs,N⟩:∃rs,rs=ps.drop n:=⟨_,rfl⟩
 obtain⟨z,J⟩:∃z,z=c.drop n:=⟨_,rfl⟩
 have ay:Hid (rs.map R=(ps.map R).drop n):=show _=_ by rw[N,List.map_drop]
 have O:Hid (z.map R=(c.map R).drop n):=show _=_ by rw[J,List.map_drop]
 have aF:rs.length+nmL H rs≤1048576:=by rw[N];have:=q0y ps n;omega
 have aG:z.length+nmL H z≤1048576:=by rw[J];have:=q0y c n;omega
 have aM:∀p∈rs,0<p.acts.length:=fun p hp=>aL p (List.mem_of_mem_drop (by rw[←N];exact hp))
 have aN:∀p∈z,0<p.acts.length:=fun p hp=>aq p (List.mem_of_mem_drop (by rw[←J];exact hp))
 have X:rs.length=ps.length-n:=by rw[N,List.length_drop]
 have M:z.length=c.length-n:=by rw[J,List.length_drop]
 rw[←N]at ao;rw[←J]at ap;have af:(0:Int)≤(n:Int):=by omega
 have aH:(n:Int)≤(ps.length:Int):=by omega
 have aI:(n:Int)≤(c.length:Int):=by omega
 obtain⟨ra,rc,bg,aC⟩:∃ra rc,(∀u:World,(Instr.slice 25 (D a ps.length cap) (some (F G n)) none none).run Q u=.ok (D ra rs.length rc) u)∧(∀w,txnK.At w (D a ps.length cap) ps→txnK.At w (D ra rs.length rc) rs):=by
  refine⟨_,_,fun u=>?_,fun w h=>ao w h (cap-n)⟩;rw[run_slice_l u 25 a ps.length cap (by kernel_rfl) .i64 (n:Int) af aH,X];rfl
 obtain⟨bb,bc,bh,aV⟩:∃ra rc,(∀u:World,(Instr.slice 25 (D a' c.length I) (some (F G n)) none none).run Q u=.ok (D ra z.length rc) u)∧(∀w,txnK.At w (D a' c.length I) c→txnK.At w (D ra z.length rc) z):=by
  refine⟨_,_,fun u=>?_,fun w h=>ap w h (I-n)⟩;rw[run_slice_l u 25 a' c.length I (by kernel_rfl) .i64 (n:Int) af aI,M];rfl
 have aO:rs.length≤40:=by omega
 have aQ:Hid (((ps.map R).drop n).length=rs.length):=show _=_ by rw[List.length_drop,List.length_map,X]
 have aj:Hid (((ps.length:Int)-(n:Int))=(rs.length:Int)):=show _=_ by omega
 have HZ:Hid (z=[]↔n=c.length):=by
  show _↔_;constructor
  ·intro e;rw[e]at M;simp at M;omega
  ·intro e;exact List.length_eq_zero_iff.1 (by omega)
 clear ao ap N J X M;go_enter func179,ntmps179
 go_wp2_with fail
 refine hq.mono ?_;rintro e Y ⟨rfl,an⟩;replace hB:=hB.trans (an.mono hB.size);replace Rb:=Rb.below an;clear hq an;have bf:=Rb.lt;by_cases hz:n=c.length
 ·obtain⟨e1,e2,e3,e4⟩:=ak.out (by rw[←O.out,HZ.out.2 hz];rfl);have ba:((n:Int)==(c.length:Int))=true:=by rw[hz];simp
  have E1:Hid (VN=(n:Int)∧VB=0∧VA=[]):=⟨e1,e2,e3⟩
  have E4:Hid (VK=(ps.map R).drop n):=e4;have Pb:=Blk.new Y 216 #[F G 0,F G n,F G 0,D none 0 0,D none 0 0];have L:Below Y.heap.size Y (Y.alloc (.cells #[F G 0,F G n,F G 0,D none 0 0,D none 0 0] 216)):=by go_grown
  have d:=hB.trans (L.mono hB.size);have A:=Rb.below L;have a8:Y.heap.size<(Y.alloc (.cells #[F G 0,F G n,F G 0,D none 0 0,D none 0 0] 216)).heap.size:=by simp
  have W:=fun w h=>z1N (D ra rs.length rc) rs w h aM aF
  clear ak al hB Rb L e1 e2 e3 e4 HZ hz aj
  go_wp2_with fail
  generalize Y.alloc (.cells #[F G 0,F G n,F G 0,D none 0 0,D none 0 0] 216)=Z at*;generalize Y.heap.size=pb at*;refine(W Z (aC Z (h.below d))).mono ?_;rintro e w3 ⟨v3,q3,rfl,U,o3,n3,g3,C⟩;obtain⟨a3,c3,rfl⟩:=o3.shape;replace Pb:=Pb.below C;replace A:=A.below C;replace d:=d.trans (C.mono d.size);clear W C;have a2:pb≠w.heap.size:=by omega
  have ab:w.heap.size≠pb:=by omega
  have ai:Hid (q3.map R=VK):=show _=_ by rw[E4.out,U,ay.out]
  clear U E4;have aJ:∀k∈txnK.fp (D a3 q3.length c3) q3,k∉[pb]∧k∉[w.heap.size]:=fun k hk=>by have:=g3 k hk;simp only[E];omega
  have g4:∀k∈txnK.fp (D a3 q3.length c3) q3,w.heap.size≤k:=fun k hk=>by have:=g3 k hk;omega
  have p0:=Pb.cell 0 _ rfl;have aR:=Pb.frozen 0;have p1:=Pb.cell 1 _ rfl;have aS:=Pb.frozen 1;have p2:=Pb.cell 2 _ rfl;have aT:=Pb.frozen 2;have p3:=Pb.cell 3 _ rfl;have am:=Pb.frozen 3;have p4:=Pb.cell 4 _ rfl;have aU:=Pb.frozen 4;have T:=A.other8 (g:=pb) (j:=4) (u:=D a3 q3.length c3) ab;have KQ:=d.setCell (p:=⟨pb,4,none⟩) (show w.heap.size≤pb by omega) (D a3 q3.length c3);have KF:=z0j KQ (Nat.le_refl w.heap.size) #[F G 0,F G n,F G 0,D none 0 0,D a3 q3.length c3];have O5:Hid _:=(o3.out (B w3 pb 4 (D a3 q3.length c3)) (fun k hk=>(aJ k hk).1)).out (z0A _ w.heap.size #[F G 0,F G n,F G 0,D none 0 0,D a3 q3.length c3]) (fun k hk=>(aJ k hk).2);have Rr:=T.row #[F G 0,F G n,F G 0,D none 0 0,D a3 q3.length c3]
  go_wp2_with (first|(refine z0r (by kernel_rfl) 216 _ _ rfl _ #[F G 0,F G n,F G 0,D none 0 0,D a3 q3.length c3] rfl rfl 216 _ T z6d rfl (by simp[Value.oneCell']) ?_))
  obtain⟨ar,au,av,aw,ax⟩:=Rr.cel5;refine bodyPost_ret (v:=.agg #[F G 0,F G n,F G 0,D none 0 0,D a3 q3.length c3]) (by simp[results,results179,go_sem,ar,au,av,aw,ax]) rfl ?_;refine⟨D none 0 0,D a3 q3.length c3,[],q3,?_,?_,ai.out,(z3y _).1,O5.out,?_,?_,KF⟩
  ·rw[E1.out.1,E1.out.2.1]
  ·rw[E1.out.2.2];rfl
  ·rw[(z3y w).2];exact n3
  ·rw[(z3y w).2];exact g4
 ·obtain⟨e1,e2,e3,e4⟩:=al.out (by rw[←O.out];intro e;exact hz (HZ.out.1 (List.map_eq_nil_iff.1 e)));have ba:((n:Int)==(c.length:Int))=false:=by simp;omega
  rw[aQ.out]at e2;have E1:Hid (VN=(n:Int)∧VB=(rs.length:Int)):=⟨e1,e2⟩
  have E3:Hid (VA=(c.map R).drop n):=e3;have E4:Hid (VK=z5r ((ps.map R).drop n) (c.map R)):=e4;have aY:=aj.out;clear ak al e1 e2 e3 e4 HZ aj hz;have W:=fun w h=>z1N (D bb z.length bc) z w h aN aG
  have aK:=fun w h h'=>z7S (D ra rs.length rc) (D a' c.length I) rs c w h h' aM aO aF (by omega)
  have Pb:=Blk.new Y 216 #[F G 0,F G n,F G rs.length,D none 0 0,D none 0 0];have L:Below Y.heap.size Y (Y.alloc (.cells #[F G 0,F G n,F G rs.length,D none 0 0,D none 0 0] 216)):=by go_grown
  have d:=hB.trans (L.mono hB.size);have A:=Rb.below L;have a8:Y.heap.size<(Y.alloc (.cells #[F G 0,F G n,F G rs.length,D none 0 0,D none 0 0] 216)).heap.size:=by simp
  clear L hB Rb
  go_wp2_with fail
  clear aY;generalize Y.alloc (.cells #[F G 0,F G n,F G rs.length,D none 0 0,D none 0 0] 216)=Z at*;generalize Y.heap.size=pb at*;refine(W Z (aV Z (h'.below d))).mono ?_;rintro e w3 ⟨v3,q3,rfl,U,o3,n3,g3,C⟩;obtain⟨a3,c3,rfl⟩:=o3.shape;have a2:pb≠w.heap.size:=by omega
  have ab:w.heap.size≠pb:=by omega
  have a7:=C.size;have l3:=o3.lt;replace Pb:=Pb.below C;replace A:=A.below C;replace d:=d.trans (C.mono d.size);clear W C;have aP:Hid (q3.map R=VA):=show _=_ by rw[E3.out,U,O.out]
  clear U E3;have p3:=Pb.cell 3 _ rfl;have am:=Pb.frozen 3;replace Pb:=Pb.putA 3 (D a3 q3.length c3);replace A:=A.other8 (g:=pb) (j:=3) (u:=D a3 q3.length c3) ab;replace d:=d.setCell (p:=⟨pb,3,none⟩) (show w.heap.size≤pb by omega) (D a3 q3.length c3);have aa:∀k∈txnK.fp (D a3 q3.length c3) q3,k∉[pb]∧k∉[w.heap.size]:=fun k hk=>by have:=g3 k hk;simp only[E];omega
  replace o3:=o3.out (B w3 pb 3 (D a3 q3.length c3)) (fun k hk=>(aa k hk).1);have ah:w3.heap.size=(w3.setCell ⟨pb,3,none⟩ (D a3 q3.length c3)).heap.size:=by simp
  go_wp2_with fail
  clear p3 am;generalize w3.setCell ⟨pb,3,none⟩ (D a3 q3.length c3)=w4 at*;rw[ah]at l3 a7;clear ah;simp only[pjE]at Pb;have aD:=aC w4 (h.below d);refine(aK w4 aD (h'.below d)).mono ?_;rintro e w6 ⟨v6,q6,rfl,aB,o6,n6,g6,V⟩;obtain⟨a6,c6,rfl⟩:=o6.shape;replace Pb:=Pb.below V;replace A:=A.below V;replace d:=d.trans (V.mono d.size);replace o3:=o3.below V;have ai:Hid (q6.map R=VK):=show _=_ by rw[E4.out,aB,ay.out]
  clear aB E4 aK V aD;have ag:∀k∈txnK.fp (D a6 q6.length c6) q6,k∉[pb]∧k∉[w.heap.size]:=fun k hk=>by have:=g6 k hk;simp only[E];omega
  have gA:∀k∈txnK.fp (D a3 q3.length c3) q3++txnK.fp (D a6 q6.length c6) q6,w.heap.size≤k:=fun k hk=>by
   rcases List.mem_append.1 hk with hk|hk
   ·have:=g3 k hk;omega
   ·have:=g6 k hk;omega
  have nA:(txnK.fp (D a3 q3.length c3) q3++txnK.fp (D a6 q6.length c6) q6).Nodup:=List.nodup_append.2 ⟨n3,n6,fun x hx y hy e=>by have:=l3 x hx;have:=g6 y hy;omega⟩;have p0:=Pb.cell 0 _ rfl;have aR:=Pb.frozen 0;have p1:=Pb.cell 1 _ rfl;have aS:=Pb.frozen 1;have p2:=Pb.cell 2 _ rfl;have aT:=Pb.frozen 2;have p3:=Pb.cell 3 _ rfl;have am:=Pb.frozen 3;have p4:=Pb.cell 4 _ rfl;have aU:=Pb.frozen 4;have T:=A.other8 (g:=pb) (j:=4) (u:=D a6 q6.length c6) ab;have KQ:=d.setCell (p:=⟨pb,4,none⟩) (show w.heap.size≤pb by omega) (D a6 q6.length c6);have KF:=z0j KQ (Nat.le_refl w.heap.size) #[F G 0,F G n,F G rs.length,D a3 q3.length c3,D a6 q6.length c6];have O3:Hid _:=(o3.out (B w6 pb 4 (D a6 q6.length c6)) (fun k hk=>(aa k hk).1)).out (z0A _ w.heap.size #[F G 0,F G n,F G rs.length,D a3 q3.length c3,D a6 q6.length c6]) (fun k hk=>(aa k hk).2);have O6:Hid _:=(o6.out (B w6 pb 4 (D a6 q6.length c6)) (fun k hk=>(ag k hk).1)).out (z0A _ w.heap.size #[F G 0,F G n,F G rs.length,D a3 q3.length c3,D a6 q6.length c6]) (fun k hk=>(ag k hk).2);have Rr:=T.row #[F G 0,F G n,F G rs.length,D a3 q3.length c3,D a6 q6.length c6]
  go_wp2_with (first|(refine z0r (by kernel_rfl) 216 _ _ rfl _ #[F G 0,F G n,F G rs.length,D a3 q3.length c3,D a6 q6.length c6] rfl rfl 216 _ T z6d rfl (by simp[Value.oneCell']) ?_))
  obtain⟨ar,au,av,aw,ax⟩:=Rr.cel5;refine bodyPost_ret (v:=.agg #[F G 0,F G n,F G rs.length,D a3 q3.length c3,D a6 q6.length c6]) (by simp[results,results179,go_sem,ar,au,av,aw,ax]) rfl ?_;refine⟨D a3 q3.length c3,D a6 q6.length c6,q3,q6,?_,aP.out,ai.out,O3.out,O6.out,nA,gA,KF⟩;rw[E1.out.1,E1.out.2]
end Go.Proofs.YtlkpdgjnhkjpjaaGreatDoor

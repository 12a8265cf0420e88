import Derived.Test.YtlkpdgjnhkjpjaaGreatDoorSUAR
import Derived.Test.YtlkpdgjnhkjpjaaGreatDoorSUAS
set_option linter.unusedVariables false
set_option linter.unusedSimpArgs false
set_option maxRecDepth 100000
set_option maxHeartbeats 8000000
namespace Go.Proofs.YtlkpdgjnhkjpjaaGreatDoor
open Go.RowKit Go.BigFrame
open TxnQ renaming e->P,n->Va
open InstQ renaming e->f
open List renaming mem_singleton->Vb
open Out renaming setCell->Vc
open IntKind renaming i64->Q
open Value renaming int->R,slice->G
open Go.Proofs.Tryz renaming prog->B
open Go.Proofs.Tryz
def plN(ds ds':List TxnD):Int:=if bthF ds ds'=0 then(comN ds ds':Int)else 0
def plB(ds ds':List TxnD):Int:=if bthF ds ds'=0 then(if ds'.drop (comN ds ds')=[]then 0 else((ds.drop (comN ds ds')).length:Int))else 0
def plA(ds ds':List TxnD):List TxnD:=if bthF ds ds'=0 then ds'.drop (comN ds ds')else []
def plK(ds ds':List TxnD):List TxnD:=if bthF ds ds'=0 then(if ds'.drop (comN ds ds')=[]then ds.drop (comN ds ds')else z47 (ds.drop (comN ds ds')) ds')else []
theorem q4D{ds ds':List TxnD}(h:bthF ds ds'≠0):plN ds ds'=0∧plB ds ds'=0∧plA ds ds'=[]∧plK ds ds'=[]:=⟨if_neg h,if_neg h,if_neg h,if_neg h⟩
theorem q4E{ds ds':List TxnD}(h:bthF ds ds'=0)(h1:ds'.drop (comN ds ds')=[]):plN ds ds'=(comN ds ds':Int)∧plB ds ds'=0∧plA ds ds'=[]∧plK ds ds'=ds.drop (comN ds ds'):=by
 unfold plN plB plA plK;rw[if_pos h,if_pos h,if_pos h,if_pos h,if_pos h1,if_pos h1,h1];exact⟨rfl,rfl,rfl,rfl⟩
theorem q4F{ds ds':List TxnD}(h:bthF ds ds'=0)(h1:ds'.drop (comN ds ds')≠[]):plN ds ds'=(comN ds ds':Int)∧plB ds ds'=((ds.drop (comN ds ds')).length:Int)∧plA ds ds'=ds'.drop (comN ds ds')∧plK ds ds'=z47 (ds.drop (comN ds ds')) ds':=by
 unfold plN plB plA plK;rw[if_pos h,if_pos h,if_pos h,if_pos h,if_neg h1,if_neg h1];exact⟨rfl,rfl,rfl,rfl⟩
theorem z6F(ps:List TxnQ)(n:Nat):(ps.drop n).length+nmL Va (ps.drop n)≤ps.length+nmL Va ps:=by
 have e:nmL Va ps=nmL Va (ps.take n)+nmL Va (ps.drop n):=by
  conv=>lhs;rw[←List.take_append_drop n ps]
  simp only[nmL,List.map_append,List.sum_append]
 rw[List.length_drop];omega
theorem z5C:(B.info? 216).map (·.size)=some 5:=by kernel_rfl
theorem z3m(w:World):txnK.Own w (G none 0 0) ([]:List TxnQ)∧txnK.fp (G none 0 0) ([]:List TxnQ)=[]:=Kind.own_nil (K:=txnK) w
theorem z6k(v v':Value)(ps c:List TxnQ)(w:World)(h:txnK.At w v ps)(h':txnK.At w v' c)(be:z1L v)(aP:z1L v')(hl:ps.length+nmL Va ps≤1048576)(bg:c.length+nmL Va c≤1048576):
  Calls B 156 #[v,v'] w fun e w'=>∃ (v1 v2:Value) (q1 q2:List TxnQ),e=.returned (.agg #[R Q (bthF (ps.map P) (c.map P)),R Q (plN (ps.map P) (c.map P)),R Q (plB (ps.map P) (c.map P)),v1,v2])∧q1.map P=plA (ps.map P) (c.map P)∧q2.map P=plK (ps.map P) (c.map P)∧txnK.Own w' v1 q1∧txnK.Own w' v2 q2∧(txnK.fp v1 q1++txnK.fp v2 q2).Nodup∧(∀k∈txnK.fp v1 q1++txnK.fp v2 q2,w.heap.size≤k)∧Below w.heap.size w w':=by
 have HV:Hid (bthF (ps.map P) (c.map P)≠0→plN (ps.map P) (c.map P)=0∧plB (ps.map P) (c.map P)=0∧plA (ps.map P) (c.map P)=[]∧plK (ps.map P) (c.map P)=[]):=fun h0=>q4D h0
 have aB:Hid (bthF (ps.map P) (c.map P)=0→(c.map P).drop (comN (ps.map P) (c.map P))=[]→plN (ps.map P) (c.map P)=(comN (ps.map P) (c.map P):Int)∧plB (ps.map P) (c.map P)=0∧plA (ps.map P) (c.map P)=[]∧plK (ps.map P) (c.map P)=(ps.map P).drop (comN (ps.map P) (c.map P))):=fun h0 h1=>q4E h0 h1
 have aC:Hid (bthF (ps.map P) (c.map P)=0→(c.map P).drop (comN (ps.map P) (c.map P))≠[]→plN (ps.map P) (c.map P)=(comN (ps.map P) (c.map P):Int)∧plB (ps.map P) (c.map P)=(((ps.map P).drop (comN (ps.map P) (c.map P))).length:Int)∧plA (ps.map P) (c.map P)=(c.map P).drop (comN (ps.map P) (c.map P))∧plK (ps.map P) (c.map P)=z47 ((ps.map P).drop (comN (ps.map P) (c.map P))) (c.map P)):=fun h0 h1=>q4F h0 h1
 have HL:Hid (bthF (ps.map P) (c.map P)=0→ps.length≤40∧c.length≤40∧(∀p∈ps,0<p.acts.length)∧(∀p∈c,0<p.acts.length)):=fun h0=>⟨by simpa using(z5B (z1A h0).1).1,by simpa using(z5B (z1A h0).2).1,z7u (z1A h0).1,z7u (z1A h0).2⟩
 have bi:comN (ps.map P) (c.map P)≤ps.length:=by simpa using(q0o (ps.map P) (c.map P)).1
 have bj:comN (ps.map P) (c.map P)≤c.length:=by simpa using(q0o (ps.map P) (c.map P)).2
 have aA:Hid (bthF (ps.map P) (c.map P)=0→cmV (ps.map P) (c.map P)=(comN (ps.map P) (c.map P):Int)):=fun h0=>if_pos h0
 have hB:Below w.heap.size w (w.alloc (.cells #[R Q 0,R Q 0,R Q 0,G none 0 0,G none 0 0] 216)):=by go_grown
 have Rb:=Blk.new w 216 #[R Q 0,R Q 0,R Q 0,G none 0 0,G none 0 0];have hq:=z4P v v' ps c (w.alloc (.cells #[R Q 0,R Q 0,R Q 0,G none 0 0,G none 0 0] 216)) (h.below hB) (h'.below hB) hl bg;obtain⟨a,cap,rfl⟩:=h.shape;obtain⟨a',D,rfl⟩:=h'.shape;generalize bthF (ps.map P) (c.map P)=C at*;generalize plN (ps.map P) (c.map P)=VN at*;generalize plB (ps.map P) (c.map P)=VB at*;generalize plA (ps.map P) (c.map P)=VA at*;generalize plK (ps.map P) (c.map P)=VK at*;generalize cmV (ps.map P) (c.map P)=CV at*;go_enter func156,ntmps156
 go_wp2_with fail
 refine hq.mono ?_;rintro e w1 ⟨rfl,aH⟩;replace hB:=hB.trans (aH.mono hB.size);replace Rb:=Rb.below aH;clear hq aH;have aI:Below w1.heap.size w1 (w1.alloc (.cells #[R Q C,R Q CV] 53)):=by go_grown
 have Cb:=Blk.new w1 53 #[R Q C,R Q CV];have br:=hB;replace hB:=hB.trans (aI.mono hB.size);have bu:w.heap.size<w1.heap.size:=Rb.lt;have bp:=Rb;replace Rb:=Rb.below aI;clear aI;by_cases hC:C=0
 ·have ap:=aB.out hC;have aq:=aC.out hC;have aD:Hid _:=ap;have aE:Hid _:=aq;have bf:=aA.out hC;obtain⟨bq,bn,aT,aL⟩:=HL.out hC;subst hC;subst bf;clear HV aB aC ap aq aA HL;generalize comN (ps.map P) (c.map P)=n at*;have aJ:=fun w (h:txnK.At w (G a ps.length cap) ps) c'=>h.dropS n bi be.1 c'
  have aK:=fun w (h:txnK.At w (G a' c.length D) c) c'=>h.dropS n bj aP.1 c'
  obtain⟨rs,M⟩:∃rs,rs=ps.drop n:=⟨_,rfl⟩
  obtain⟨z,I⟩:∃z,z=c.drop n:=⟨_,rfl⟩
  have aM:Hid (rs.map P=(ps.map P).drop n):=show _=_ by rw[M,List.map_drop]
  have N:Hid (z.map P=(c.map P).drop n):=show _=_ by rw[I,List.map_drop]
  have bh:rs.length+nmL Va rs≤1048576:=by rw[M];have:=z6F ps n;omega
  have aQ:z.length+nmL Va z≤1048576:=by rw[I];have:=z6F c n;omega
  have aU:∀p∈rs,0<p.acts.length:=fun p hp=>aT p (List.mem_of_mem_drop (by rw[←M];exact hp))
  have aV:∀p∈z,0<p.acts.length:=fun p hp=>aL p (List.mem_of_mem_drop (by rw[←I];exact hp))
  have ab:rs.length=ps.length-n:=by rw[M,List.length_drop]
  have av:z.length=c.length-n:=by rw[I,List.length_drop]
  rw[←M]at aJ;rw[←I]at aK;have ad:(0:Int)≤(n:Int):=by omega
  have aw:(n:Int)≤(ps.length:Int):=by omega
  have ax:(n:Int)≤(c.length:Int):=by omega
  obtain⟨ra,rc,an,aO⟩:∃ra rc,(∀u:World,(Instr.sliceAt 25 (G a ps.length cap) (some (R Q n)) none none).run B u=.ok (G ra rs.length rc) u)∧(∀w,txnK.At w (G a ps.length cap) ps→txnK.At w (G ra rs.length rc) rs):=by
   refine⟨_,_,fun u=>?_,fun w h=>aJ w h (cap-n)⟩;rw[run_sliceAt_slice u 25 _ _ _ _ (by kernel_rfl),run_slice_l u 25 a ps.length cap (by kernel_rfl) .i64 (n:Int) ad aw,ab];rfl
  obtain⟨aY,aZ,ao,bd⟩:∃ra rc,(∀u:World,(Instr.sliceAt 25 (G a' c.length D) (some (R Q n)) none none).run B u=.ok (G ra z.length rc) u)∧(∀w,txnK.At w (G a' c.length D) c→txnK.At w (G ra z.length rc) z):=by
   refine⟨_,_,fun u=>?_,fun w h=>aK w h (D-n)⟩;rw[run_sliceAt_slice u 25 _ _ _ _ (by kernel_rfl),run_slice_l u 25 a' c.length D (by kernel_rfl) .i64 (n:Int) ad ax,av];rfl
  have aW:rs.length≤40:=by omega
  have a7:Hid (((ps.map P).drop n).length=rs.length):=show _=_ by rw[List.length_drop,List.length_map,ab]
  clear aJ aK ad aw ax M I ab av;obtain⟨c0,c1⟩:=Cb.cel2
  go_wp2_with fail
  clear c0 c1;have bt:w1.heap.size<(w1.alloc (.cells #[R Q 0,R Q n] 53)).heap.size:=by simp
  generalize w1.alloc (.cells #[R Q 0,R Q n] 53)=X at*;obtain⟨c0,c1⟩:=Cb.lts2;have hW:Below X.heap.size X X.drew:=(Below.refl _ _).drew;have bk:Nonempty (Lat X):=⟨⟨X,Below.refl _ _⟩⟩
  replace an:∀u:Lat X,_:=fun u=>an u.val
  replace ao:∀u:Lat X,_:=fun u=>ao u.val
  refine z0a (S:=fun w'=>∃u:Lat X,w'=u.val) (by kernel_rfl) ?_;refine sgr [(0,3),(4,3)] 4 (by kernel_rfl) ⟨⟨_,hW⟩,rfl⟩ ?_;simp only[pkE];repeat go_big_quiet_step (fail)
  refine wpQuiet_nil ?_;refine qta 3 (some 21) (G ra rs.length rc) 3 (by kernel_rfl) (fun u hu=>?_) ⟨⟨_,hW⟩,rfl⟩ ?_
  ·obtain⟨u,rfl⟩:=hu;refine Eq.trans (b:=some (((Instr.sliceAt 25 (G a ps.length cap) (some (R Q n)) none none)>>=fun x=>pure (Next.value x):Sem Next).run B u.val)) (by kernel_rfl) ?_;rw[Sem.run_bind,an u];rfl
  simp only[Act.put,pjE];refine qta 7 (some 25) (G aY z.length aZ) 2 (by kernel_rfl) (fun u hu=>?_) ⟨⟨_,hW⟩,rfl⟩ ?_
  ·obtain⟨u,rfl⟩:=hu;refine Eq.trans (b:=some (((Instr.sliceAt 25 (G a' c.length D) (some (R Q n)) none none)>>=fun x=>pure (Next.value x):Sem Next).run B u.val)) (by kernel_rfl) ?_;rw[Sem.run_bind,ao u];rfl
  simp only[Act.put,pjE];refine sgr [(8,2)] 0 (by kernel_rfl) ⟨⟨_,hW⟩,rfl⟩ ?_;simp only[pkE];repeat go_big_quiet_step (fail)
  refine wpQuiet_nil ?_;refine z0e (by kernel_rfl) ?_;clear c0 c1 bk an ao;replace hB:=hB.trans (hW.mono hB.size);replace Rb:=Rb.below hW;replace Cb:=Cb.below hW;have bo:=hW.size;clear hW;generalize X.drew=Y at*;obtain⟨c0,c1⟩:=Cb.cel2;have Pb:=Blk.new Y 216 #[R Q 0,R Q n,R Q 0,G none 0 0,G none 0 0];have L:Below Y.heap.size Y (Y.alloc (.cells #[R Q 0,R Q n,R Q 0,G none 0 0,G none 0 0] 216)):=by go_grown
  have d:=hB.trans (L.mono hB.size);have A:=Rb.below L;have bv:=Rb.lt;have aX:Y.heap.size<(Y.alloc (.cells #[R Q 0,R Q n,R Q 0,G none 0 0,G none 0 0] 216)).heap.size:=by simp
  have al:=hB;have aF:=Rb;clear hB Rb L;by_cases hz:z=[]
  ·-- CUT1
   subst hz;clear al aF;obtain⟨e1,e2,e3,e4⟩:=aD.out N.out.symm;clear aD aE;have W:=fun w h=>z1d (G ra rs.length rc) rs w h aU bh
   go_wp2_with fail
   clear c0 c1;generalize Y.alloc (.cells #[R Q 0,R Q n,R Q 0,G none 0 0,G none 0 0] 216)=Z at*;generalize Y.heap.size=pb at*;refine(W Z (aO Z (h.below d))).mono ?_;rintro e w3 ⟨v3,q3,rfl,T,o3,n3,g3,E⟩;obtain⟨a3,c3,rfl⟩:=o3.shape;replace Pb:=Pb.below E;replace A:=A.below E;replace d:=d.trans (E.mono d.size);clear W E;have bl:pb≠w.heap.size:=by omega
   have am:w.heap.size≠pb:=by omega
   have E4:Hid (q3.map P=VK):=show _=_ by rw[e4,T,aM.out]
   have E1:Hid (VN=(n:Int)∧VB=0∧VA=[]):=⟨e1,e2,e3⟩
   clear e1 e2 e3 e4 T;have aR:∀k∈txnK.fp (G a3 q3.length c3) q3,k∉[pb]∧k∉[w.heap.size]:=fun k hk=>by have:=g3 k hk;simp only[Vb];omega
   have g4:∀k∈txnK.fp (G a3 q3.length c3) q3,w.heap.size≤k:=fun k hk=>by have:=g3 k hk;omega
   have p0:=Pb.cell 0 _ rfl;have a8:=Pb.frozen 0;have p1:=Pb.cell 1 _ rfl;have ba:=Pb.frozen 1;have p2:=Pb.cell 2 _ rfl;have bb:=Pb.frozen 2;have p3:=Pb.cell 3 _ rfl;have aG:=Pb.frozen 3;have p4:=Pb.cell 4 _ rfl;have bc:=Pb.frozen 4;have O:=A.other8 (g:=pb) (j:=4) (u:=G a3 q3.length c3) am;have KQ:=d.setCell (p:=⟨pb,4,none⟩) (show w.heap.size≤pb by omega) (G a3 q3.length c3);have KF:=z0j KQ (Nat.le_refl w.heap.size) #[R Q 0,R Q n,R Q 0,G none 0 0,G a3 q3.length c3];have O5:Hid _:=(o3.out (Vc w3 pb 4 (G a3 q3.length c3)) (fun k hk=>(aR k hk).1)).out (z0L _ w.heap.size #[R Q 0,R Q n,R Q 0,G none 0 0,G a3 q3.length c3]) (fun k hk=>(aR k hk).2);have Rr:=O.row #[R Q 0,R Q n,R Q 0,G none 0 0,G a3 q3.length c3]
   go_wp2_with (first|(refine z0s (by kernel_rfl) 216 _ _ rfl _ #[R Q 0,R Q n,R Q 0,G none 0 0,G a3 q3.length c3] rfl rfl 216 _ O z5C rfl (by simp[Value.oneCell']) ?_))
   obtain⟨ag,ah,ai,aj,ak⟩:=Rr.cel5;refine bodyPost_ret (v:=.agg #[R Q 0,R Q n,R Q 0,G none 0 0,G a3 q3.length c3]) (by simp[results,results156,go_sem,ag,ah,ai,aj,ak]) rfl ?_;refine⟨G none 0 0,G a3 q3.length c3,[],q3,?_,?_,E4.out,(z3m _).1,O5.out,?_,?_,KF⟩
   ·rw[E1.out.1,E1.out.2.1]
   ·rw[E1.out.2.2];rfl
   ·rw[(z3m w).2];exact n3
   ·rw[(z3m w).2];exact g4
  ·obtain⟨e1,e2,e3,e4⟩:=aE.out (by rw[←N.out];simpa using hz);have bx:0<z.length:=List.length_pos_iff.2 hz;have bz:¬z.length=0:=by omega
   have bA:((z.length:Int)==0)=false:=by simp;omega
   rw[a7.out]at e2;have E1:Hid (VN=(n:Int)∧VB=(rs.length:Int)):=⟨e1,e2⟩
   have E3:Hid (VA=(c.map P).drop n):=e3;have E4:Hid (VK=z47 ((ps.map P).drop n) (c.map P)):=e4;clear aD aE e1 e2 e3 e4 hz Pb d A aX;have W:=fun w h=>z1d (G aY z.length aZ) z w h aV aQ
   have aS:=fun w h h'=>z9R (G ra rs.length rc) (G a' c.length D) rs c w h h' aW (by omega)
   have aa:=fun v w h=>z1d v (witQ rs (c.map P)) w h (fun p hp=>aU p (q2C hp)) (by have:=q60 rs (c.map P);omega)
   rw[q5v]at aa;have Pb:=Blk.new Y 216 #[R Q 0,R Q n,R Q rs.length,G none 0 0,G none 0 0];have L:Below Y.heap.size Y (Y.alloc (.cells #[R Q 0,R Q n,R Q rs.length,G none 0 0,G none 0 0] 216)):=by go_grown
   have d:=al.trans (L.mono al.size);have A:=aF.below L;have aX:Y.heap.size<(Y.alloc (.cells #[R Q 0,R Q n,R Q rs.length,G none 0 0,G none 0 0] 216)).heap.size:=by simp
   clear L al aF
   go_wp2_with fail
   clear c0 c1;generalize Y.alloc (.cells #[R Q 0,R Q n,R Q rs.length,G none 0 0,G none 0 0] 216)=Z at*;generalize Y.heap.size=pb at*;refine(W Z (bd Z (h'.below d))).mono ?_;rintro e w3 ⟨v3,q3,rfl,T,o3,n3,g3,E⟩;obtain⟨a3,c3,rfl⟩:=o3.shape;have bl:pb≠w.heap.size:=by omega
   have am:w.heap.size≠pb:=by omega
   have bm:=E.size;have l3:=o3.lt;replace Pb:=Pb.below E;replace A:=A.below E;replace d:=d.trans (E.mono d.size);clear W E;have a1:Hid (q3.map P=VA):=show _=_ by rw[E3.out,T,N.out]
   clear T E3;have p3:=Pb.cell 3 _ rfl;have aG:=Pb.frozen 3;replace Pb:=Pb.putA 3 (G a3 q3.length c3);replace A:=A.other8 (g:=pb) (j:=3) (u:=G a3 q3.length c3) am;replace d:=d.setCell (p:=⟨pb,3,none⟩) (show w.heap.size≤pb by omega) (G a3 q3.length c3);have ae:∀k∈txnK.fp (G a3 q3.length c3) q3,k∉[pb]∧k∉[w.heap.size]:=fun k hk=>by have:=g3 k hk;simp only[Vb];omega
   replace o3:=o3.out (Vc w3 pb 3 (G a3 q3.length c3)) (fun k hk=>(ae k hk).1);have az:w3.heap.size=(w3.setCell ⟨pb,3,none⟩ (G a3 q3.length c3)).heap.size:=by simp
   go_wp2_with fail
   clear p3 aG;generalize w3.setCell ⟨pb,3,none⟩ (G a3 q3.length c3)=w4 at*;rw[az]at l3 bm;clear az;simp only[pjE]at Pb;have U:=aO w4 (h.below d);refine(aS w4 U (h'.below d)).mono ?_;rintro e w5 ⟨v5,rfl,af,J⟩;replace U:=U.below J;have ar:txnK.At w5 v5 (witQ rs (c.map P)):=Kind.at_of_row af (fun q hq=>U.rdm (q2C hq));obtain⟨a5,c5,rfl⟩:=z0g af;replace Pb:=Pb.below J;replace A:=A.below J;replace d:=d.trans (J.mono d.size);replace o3:=o3.below J;have bw:=J.size;have au:=aa (.slice a5 (witQ rs (c.map P)).length c5) w5 ar;clear aS J af ar U aa;generalize witQ rs (c.map P)=wq at*
   go_wp2_with fail
   refine au.mono ?_;rintro e w6 ⟨v6,q6,rfl,aN,o6,n6,g6,V⟩;obtain⟨a6,c6,rfl⟩:=o6.shape;replace Pb:=Pb.below V;replace A:=A.below V;replace d:=d.trans (V.mono d.size);replace o3:=o3.below V;have a2:Hid (q6.map P=VK):=show _=_ by rw[E4.out,aN,aM.out]
   clear aN E4 au V;have ay:∀k∈txnK.fp (G a6 q6.length c6) q6,k∉[pb]∧k∉[w.heap.size]:=fun k hk=>by have:=g6 k hk;simp only[Vb];omega
   have gA:∀k∈txnK.fp (G a3 q3.length c3) q3++txnK.fp (G a6 q6.length c6) q6,w.heap.size≤k:=fun k hk=>by
    rcases List.mem_append.1 hk with hk|hk
    ·have:=g3 k hk;omega
    ·have:=g6 k hk;omega
   have nA:(txnK.fp (G a3 q3.length c3) q3++txnK.fp (G a6 q6.length c6) q6).Nodup:=List.nodup_append.2 ⟨n3,n6,fun x hx y hy e=>by have:=l3 x hx;have:=g6 y hy;omega⟩;have p0:=Pb.cell 0 _ rfl;have a8:=Pb.frozen 0;have p1:=Pb.cell 1 _ rfl;have ba:=Pb.frozen 1;have p2:=Pb.cell 2 _ rfl;have bb:=Pb.frozen 2;have p3:=Pb.cell 3 _ rfl;have aG:=Pb.frozen 3;have p4:=Pb.cell 4 _ rfl;have bc:=Pb.frozen 4;have O:=A.other8 (g:=pb) (j:=4) (u:=G a6 q6.length c6) am;have KQ:=d.setCell (p:=⟨pb,4,none⟩) (show w.heap.size≤pb by omega) (G a6 q6.length c6);have KF:=z0j KQ (Nat.le_refl w.heap.size) #[R Q 0,R Q n,R Q rs.length,G a3 q3.length c3,G a6 q6.length c6];have O3:Hid _:=(o3.out (Vc w6 pb 4 (G a6 q6.length c6)) (fun k hk=>(ae k hk).1)).out (z0L _ w.heap.size #[R Q 0,R Q n,R Q rs.length,G a3 q3.length c3,G a6 q6.length c6]) (fun k hk=>(ae k hk).2);have O6:Hid _:=(o6.out (Vc w6 pb 4 (G a6 q6.length c6)) (fun k hk=>(ay k hk).1)).out (z0L _ w.heap.size #[R Q 0,R Q n,R Q rs.length,G a3 q3.length c3,G a6 q6.length c6]) (fun k hk=>(ay k hk).2);have Rr:=O.row #[R Q 0,R Q n,R Q rs.length,G a3 q3.length c3,G a6 q6.length c6]
   go_wp2_with (first|(refine z0s (by kernel_rfl) 216 _ _ rfl _ #[R Q 0,R Q n,R Q rs.length,G a3 q3.length c3,G a6 q6.length c6] rfl rfl 216 _ O z5C rfl (by simp[Value.oneCell']) ?_))
   obtain⟨ag,ah,ai,aj,ak⟩:=Rr.cel5;refine bodyPost_ret (v:=.agg #[R Q 0,R Q n,R Q rs.length,G a3 q3.length c3,G a6 q6.length c6]) (by simp[results,results156,go_sem,ag,ah,ai,aj,ak]) rfl ?_;refine⟨G a3 q3.length c3,G a6 q6.length c6,q3,q6,?_,a1.out,a2.out,O3.out,O6.out,nA,gA,KF⟩;rw[E1.out.1,E1.out.2]
 ·obtain⟨e1,e2,e3,e4⟩:=HV.out hC;have E1:Hid (VN=0∧VB=0∧VA=[]∧VK=[]):=⟨e1,e2,e3,e4⟩
  obtain⟨c0,c1⟩:=Cb.cel2;clear HV aB aC aA HL e1 e2 e3 e4;have bs:(C !=0)=true:=by simpa using hC
  have KF:=z0j hB (Nat.le_refl w.heap.size) #[R Q C,R Q 0,R Q 0,G none 0 0,G none 0 0];have Rr:=Rb.row #[R Q C,R Q 0,R Q 0,G none 0 0,G none 0 0]
  go_wp2_with (first|(refine z0s (by kernel_rfl) 216 _ _ rfl _ #[R Q C,R Q 0,R Q 0,G none 0 0,G none 0 0] rfl rfl 216 _ Rb z5C rfl (by simp[Value.oneCell']) ?_))
  obtain⟨ag,ah,ai,aj,ak⟩:=Rr.cel5;refine bodyPost_ret (v:=.agg #[R Q C,R Q 0,R Q 0,G none 0 0,G none 0 0]) (by simp[results,results156,go_sem,ag,ah,ai,aj,ak]) rfl ?_;refine⟨G none 0 0,G none 0 0,[],[],?_,?_,?_,(z3m _).1,(z3m _).1,?_,?_,KF⟩
  ·rw[E1.out.1,E1.out.2.1]
  ·rw[E1.out.2.2.1];rfl
  ·rw[E1.out.2.2.2];rfl
  ·rw[(z3m w).2];simp
  ·rw[(z3m w).2];simp
theorem q1j(v v':Value)(ps c:List TxnQ)(w:World)(h:txnK.At w v ps)(h':txnK.At w v' c)(aU:z1L v)(aC:z1L v')(hl:ps.length+nmL Va ps≤1048576)(aV:c.length+nmL Va c≤1048576)(hC:bthF (ps.map P) (c.map P)=0):
  Calls B 179 #[v,v'] w fun e w'=>∃ (v1 v2:Value) (q1 q2:List TxnQ),e=.returned (.agg #[R Q 0,R Q (plN (ps.map P) (c.map P)),R Q (plB (ps.map P) (c.map P)),v1,v2])∧q1.map P=plA (ps.map P) (c.map P)∧q2.map P=plK (ps.map P) (c.map P)∧txnK.Own w' v1 q1∧txnK.Own w' v2 q2∧(txnK.fp v1 q1++txnK.fp v2 q2).Nodup∧(∀k∈txnK.fp v1 q1++txnK.fp v2 q2,w.heap.size≤k)∧Below w.heap.size w w':=by
 have HV:Hid (bthF (ps.map P) (c.map P)≠0→plN (ps.map P) (c.map P)=0∧plB (ps.map P) (c.map P)=0∧plA (ps.map P) (c.map P)=[]∧plK (ps.map P) (c.map P)=[]):=fun h0=>q4D h0
 have ax:Hid (bthF (ps.map P) (c.map P)=0→(c.map P).drop (comN (ps.map P) (c.map P))=[]→plN (ps.map P) (c.map P)=(comN (ps.map P) (c.map P):Int)∧plB (ps.map P) (c.map P)=0∧plA (ps.map P) (c.map P)=[]∧plK (ps.map P) (c.map P)=(ps.map P).drop (comN (ps.map P) (c.map P))):=fun h0 h1=>q4E h0 h1
 have ay:Hid (bthF (ps.map P) (c.map P)=0→(c.map P).drop (comN (ps.map P) (c.map P))≠[]→plN (ps.map P) (c.map P)=(comN (ps.map P) (c.map P):Int)∧plB (ps.map P) (c.map P)=(((ps.map P).drop (comN (ps.map P) (c.map P))).length:Int)∧plA (ps.map P) (c.map P)=(c.map P).drop (comN (ps.map P) (c.map P))∧plK (ps.map P) (c.map P)=z47 ((ps.map P).drop (comN (ps.map P) (c.map P))) (c.map P)):=fun h0 h1=>q4F h0 h1
 have HL:Hid (bthF (ps.map P) (c.map P)=0→ps.length≤40∧c.length≤40∧(∀p∈ps,0<p.acts.length)∧(∀p∈c,0<p.acts.length)):=fun h0=>⟨by simpa using(z5B (z1A h0).1).1,by simpa using(z5B (z1A h0).2).1,z7u (z1A h0).1,z7u (z1A h0).2⟩
 have aX:comN (ps.map P) (c.map P)≤ps.length:=by simpa using(q0o (ps.map P) (c.map P)).1
 have aY:comN (ps.map P) (c.map P)≤c.length:=by simpa using(q0o (ps.map P) (c.map P)).2
 have hB:Below w.heap.size w (w.alloc (.cells #[R Q 0,R Q 0,R Q 0,G none 0 0,G none 0 0] 216)):=by go_grown
 have Rb:=Blk.new w 216 #[R Q 0,R Q 0,R Q 0,G none 0 0,G none 0 0];have hq:=z8M v v' ps c (w.alloc (.cells #[R Q 0,R Q 0,R Q 0,G none 0 0,G none 0 0] 216)) (h.below hB) (h'.below hB) hl aV;obtain⟨a,cap,rfl⟩:=h.shape;obtain⟨a',D,rfl⟩:=h'.shape;have aa:=ax.out hC;have ab:=ay.out hC;have ai:Hid _:=aa;have aj:Hid _:=ab;obtain⟨bc,bb,aJ,ao⟩:=HL.out hC;clear HV ax ay aa ab HL hC;generalize plN (ps.map P) (c.map P)=VN at*;generalize plB (ps.map P) (c.map P)=VB at*;generalize plA (ps.map P) (c.map P)=VA at*;generalize plK (ps.map P) (c.map P)=VK at*;generalize comN (ps.map P) (c.map P)=n at*;have am:=fun w (h:txnK.At w (G a ps.length cap) ps) c'=>h.dropS n aX aU.1 c'
 have an:=fun w (h:txnK.At w (G a' c.length D) c) c'=>h.dropS n aY aC.1 c'
 obtain⟨rs,L⟩:∃rs,rs=ps.drop n:=⟨_,rfl⟩
 obtain⟨z,E⟩:∃z,z=c.drop n:=⟨_,rfl⟩
 have aw:Hid (rs.map P=(ps.map P).drop n):=show _=_ by rw[L,List.map_drop]
 have M:Hid (z.map P=(c.map P).drop n):=show _=_ by rw[E,List.map_drop]
 have aD:rs.length+nmL Va rs≤1048576:=by rw[L];have:=z6F ps n;omega
 have aE:z.length+nmL Va z≤1048576:=by rw[E];have:=z6F c n;omega
 have aK:∀p∈rs,0<p.acts.length:=fun p hp=>aJ p (List.mem_of_mem_drop (by rw[←L];exact hp))
 have aL:∀p∈z,0<p.acts.length:=fun p hp=>ao p (List.mem_of_mem_drop (by rw[←E];exact hp))
 have V:rs.length=ps.length-n:=by rw[L,List.length_drop]
 have J:z.length=c.length-n:=by rw[E,List.length_drop]
 rw[←L]at am;rw[←E]at an;have ad:(0:Int)≤(n:Int):=by omega
 have aF:(n:Int)≤(ps.length:Int):=by omega
 have aG:(n:Int)≤(c.length:Int):=by omega
 obtain⟨ra,rc,be,aA⟩:∃ra rc,(∀u:World,(Instr.slice 25 (G a ps.length cap) (some (R Q n)) none none).run B u=.ok (G ra rs.length rc) u)∧(∀w,txnK.At w (G a ps.length cap) ps→txnK.At w (G ra rs.length rc) rs):=by
  refine⟨_,_,fun u=>?_,fun w h=>am w h (cap-n)⟩;rw[run_slice_l u 25 a ps.length cap (by kernel_rfl) .i64 (n:Int) ad aF,V];rfl
 obtain⟨a8,ba,bf,aT⟩:∃ra rc,(∀u:World,(Instr.slice 25 (G a' c.length D) (some (R Q n)) none none).run B u=.ok (G ra z.length rc) u)∧(∀w,txnK.At w (G a' c.length D) c→txnK.At w (G ra z.length rc) z):=by
  refine⟨_,_,fun u=>?_,fun w h=>an w h (D-n)⟩;rw[run_slice_l u 25 a' c.length D (by kernel_rfl) .i64 (n:Int) ad aG,J];rfl
 have aM:rs.length≤40:=by omega
 have aO:Hid (((ps.map P).drop n).length=rs.length):=show _=_ by rw[List.length_drop,List.length_map,V]
 have ah:Hid (((ps.length:Int)-(n:Int))=(rs.length:Int)):=show _=_ by omega
 have HZ:Hid (z=[]↔n=c.length):=by
  show _↔_;constructor
  ·intro e;rw[e]at J;simp at J;omega
  ·intro e;exact List.length_eq_zero_iff.1 (by omega)
 clear am an L E V J;go_enter func179,ntmps179
 go_wp2_with fail
 refine hq.mono ?_;rintro e Y ⟨rfl,al⟩;replace hB:=hB.trans (al.mono hB.size);replace Rb:=Rb.below al;clear hq al;have bd:=Rb.lt;by_cases hz:n=c.length
 ·obtain⟨e1,e2,e3,e4⟩:=ai.out (by rw[←M.out,HZ.out.2 hz];rfl);have a7:((n:Int)==(c.length:Int))=true:=by rw[hz];simp
  have E1:Hid (VN=(n:Int)∧VB=0∧VA=[]):=⟨e1,e2,e3⟩
  have E4:Hid (VK=(ps.map P).drop n):=e4;have Pb:=Blk.new Y 216 #[R Q 0,R Q n,R Q 0,G none 0 0,G none 0 0];have I:Below Y.heap.size Y (Y.alloc (.cells #[R Q 0,R Q n,R Q 0,G none 0 0,G none 0 0] 216)):=by go_grown
  have d:=hB.trans (I.mono hB.size);have A:=Rb.below I;have a2:Y.heap.size<(Y.alloc (.cells #[R Q 0,R Q n,R Q 0,G none 0 0,G none 0 0] 216)).heap.size:=by simp
  have U:=fun w h=>z1M (G ra rs.length rc) rs w h aK aD
  clear ai aj hB Rb I e1 e2 e3 e4 HZ hz ah
  go_wp2_with fail
  generalize Y.alloc (.cells #[R Q 0,R Q n,R Q 0,G none 0 0,G none 0 0] 216)=Z at*;generalize Y.heap.size=pb at*;refine(U Z (aA Z (h.below d))).mono ?_;rintro e w3 ⟨v3,q3,rfl,O,o3,n3,g3,C⟩;obtain⟨a3,c3,rfl⟩:=o3.shape;replace Pb:=Pb.below C;replace A:=A.below C;replace d:=d.trans (C.mono d.size);clear U C;have aZ:pb≠w.heap.size:=by omega
  have X:w.heap.size≠pb:=by omega
  have ag:Hid (q3.map P=VK):=show _=_ by rw[E4.out,O,aw.out]
  clear O E4;have aH:∀k∈txnK.fp (G a3 q3.length c3) q3,k∉[pb]∧k∉[w.heap.size]:=fun k hk=>by have:=g3 k hk;simp only[Vb];omega
  have g4:∀k∈txnK.fp (G a3 q3.length c3) q3,w.heap.size≤k:=fun k hk=>by have:=g3 k hk;omega
  have p0:=Pb.cell 0 _ rfl;have aP:=Pb.frozen 0;have p1:=Pb.cell 1 _ rfl;have aQ:=Pb.frozen 1;have p2:=Pb.cell 2 _ rfl;have aR:=Pb.frozen 2;have p3:=Pb.cell 3 _ rfl;have ak:=Pb.frozen 3;have p4:=Pb.cell 4 _ rfl;have aS:=Pb.frozen 4;have N:=A.other8 (g:=pb) (j:=4) (u:=G a3 q3.length c3) X;have KQ:=d.setCell (p:=⟨pb,4,none⟩) (show w.heap.size≤pb by omega) (G a3 q3.length c3);have KF:=z0j KQ (Nat.le_refl w.heap.size) #[R Q 0,R Q n,R Q 0,G none 0 0,G a3 q3.length c3];have O5:Hid _:=(o3.out (Vc w3 pb 4 (G a3 q3.length c3)) (fun k hk=>(aH k hk).1)).out (z0L _ w.heap.size #[R Q 0,R Q n,R Q 0,G none 0 0,G a3 q3.length c3]) (fun k hk=>(aH k hk).2);have Rr:=N.row #[R Q 0,R Q n,R Q 0,G none 0 0,G a3 q3.length c3]
  go_wp2_with (first|(refine z0s (by kernel_rfl) 216 _ _ rfl _ #[R Q 0,R Q n,R Q 0,G none 0 0,G a3 q3.length c3] rfl rfl 216 _ N z5C rfl (by simp[Value.oneCell']) ?_))
  obtain⟨ap,aq,ar,au,av⟩:=Rr.cel5;refine bodyPost_ret (v:=.agg #[R Q 0,R Q n,R Q 0,G none 0 0,G a3 q3.length c3]) (by simp[results,results179,go_sem,ap,aq,ar,au,av]) rfl ?_;refine⟨G none 0 0,G a3 q3.length c3,[],q3,?_,?_,ag.out,(z3m _).1,O5.out,?_,?_,KF⟩
  ·rw[E1.out.1,E1.out.2.1]
  ·rw[E1.out.2.2];rfl
  ·rw[(z3m w).2];exact n3
  ·rw[(z3m w).2];exact g4
 ·obtain⟨e1,e2,e3,e4⟩:=aj.out (by rw[←M.out];intro e;exact hz (HZ.out.1 (List.map_eq_nil_iff.1 e)));have a7:((n:Int)==(c.length:Int))=false:=by simp;omega
  rw[aO.out]at e2;have E1:Hid (VN=(n:Int)∧VB=(rs.length:Int)):=⟨e1,e2⟩
  have E3:Hid (VA=(c.map P).drop n):=e3;have E4:Hid (VK=z47 ((ps.map P).drop n) (c.map P)):=e4;have aW:=ah.out;clear ai aj e1 e2 e3 e4 HZ ah hz;have U:=fun w h=>z1M (G a8 z.length ba) z w h aL aE
  have aI:=fun w h h'=>z7v (G ra rs.length rc) (G a' c.length D) rs c w h h' aK aM aD (by omega)
  have Pb:=Blk.new Y 216 #[R Q 0,R Q n,R Q rs.length,G none 0 0,G none 0 0];have I:Below Y.heap.size Y (Y.alloc (.cells #[R Q 0,R Q n,R Q rs.length,G none 0 0,G none 0 0] 216)):=by go_grown
  have d:=hB.trans (I.mono hB.size);have A:=Rb.below I;have a2:Y.heap.size<(Y.alloc (.cells #[R Q 0,R Q n,R Q rs.length,G none 0 0,G none 0 0] 216)).heap.size:=by simp
  clear I hB Rb
  go_wp2_with fail
  clear aW;generalize Y.alloc (.cells #[R Q 0,R Q n,R Q rs.length,G none 0 0,G none 0 0] 216)=Z at*;generalize Y.heap.size=pb at*;refine(U Z (aT Z (h'.below d))).mono ?_;rintro e w3 ⟨v3,q3,rfl,O,o3,n3,g3,C⟩;obtain⟨a3,c3,rfl⟩:=o3.shape;have aZ:pb≠w.heap.size:=by omega
  have X:w.heap.size≠pb:=by omega
  have a1:=C.size;have l3:=o3.lt;replace Pb:=Pb.below C;replace A:=A.below C;replace d:=d.trans (C.mono d.size);clear U C;have aN:Hid (q3.map P=VA):=show _=_ by rw[E3.out,O,M.out]
  clear O E3;have p3:=Pb.cell 3 _ rfl;have ak:=Pb.frozen 3;replace Pb:=Pb.putA 3 (G a3 q3.length c3);replace A:=A.other8 (g:=pb) (j:=3) (u:=G a3 q3.length c3) X;replace d:=d.setCell (p:=⟨pb,3,none⟩) (show w.heap.size≤pb by omega) (G a3 q3.length c3);have W:∀k∈txnK.fp (G a3 q3.length c3) q3,k∉[pb]∧k∉[w.heap.size]:=fun k hk=>by have:=g3 k hk;simp only[Vb];omega
  replace o3:=o3.out (Vc w3 pb 3 (G a3 q3.length c3)) (fun k hk=>(W k hk).1);have af:w3.heap.size=(w3.setCell ⟨pb,3,none⟩ (G a3 q3.length c3)).heap.size:=by simp
  go_wp2_with fail
  clear p3 ak;generalize w3.setCell ⟨pb,3,none⟩ (G a3 q3.length c3)=w4 at*;rw[af]at l3 a1;clear af;simp only[pjE]at Pb;have aB:=aA w4 (h.below d);refine(aI w4 aB (h'.below d)).mono ?_;rintro e w6 ⟨v6,q6,rfl,az,o6,n6,g6,T⟩;obtain⟨a6,c6,rfl⟩:=o6.shape;replace Pb:=Pb.below T;replace A:=A.below T;replace d:=d.trans (T.mono d.size);replace o3:=o3.below T;have ag:Hid (q6.map P=VK):=show _=_ by rw[E4.out,az,aw.out]
  clear az E4 aI T aB;have ae:∀k∈txnK.fp (G a6 q6.length c6) q6,k∉[pb]∧k∉[w.heap.size]:=fun k hk=>by have:=g6 k hk;simp only[Vb];omega
  have gA:∀k∈txnK.fp (G a3 q3.length c3) q3++txnK.fp (G a6 q6.length c6) q6,w.heap.size≤k:=fun k hk=>by
   rcases List.mem_append.1 hk with hk|hk
   ·have:=g3 k hk;omega
   ·have:=g6 k hk;omega
  have nA:(txnK.fp (G a3 q3.length c3) q3++txnK.fp (G a6 q6.length c6) q6).Nodup:=List.nodup_append.2 ⟨n3,n6,fun x hx y hy e=>by have:=l3 x hx;have:=g6 y hy;omega⟩;have p0:=Pb.cell 0 _ rfl;have aP:=Pb.frozen 0;have p1:=Pb.cell 1 _ rfl;have aQ:=Pb.frozen 1;have p2:=Pb.cell 2 _ rfl;have aR:=Pb.frozen 2;have p3:=Pb.cell 3 _ rfl;have ak:=Pb.frozen 3;have p4:=Pb.cell 4 _ rfl;have aS:=Pb.frozen 4;have N:=A.other8 (g:=pb) (j:=4) (u:=G a6 q6.length c6) X;have KQ:=d.setCell (p:=⟨pb,4,none⟩) (show w.heap.size≤pb by omega) (G a6 q6.length c6);have KF:=z0j KQ (Nat.le_refl w.heap.size) #[R Q 0,R Q n,R Q rs.length,G a3 q3.length c3,G a6 q6.length c6];have O3:Hid _:=(o3.out (Vc w6 pb 4 (G a6 q6.length c6)) (fun k hk=>(W k hk).1)).out (z0L _ w.heap.size #[R Q 0,R Q n,R Q rs.length,G a3 q3.length c3,G a6 q6.length c6]) (fun k hk=>(W k hk).2);have O6:Hid _:=(o6.out (Vc w6 pb 4 (G a6 q6.length c6)) (fun k hk=>(ae k hk).1)).out (z0L _ w.heap.size #[R Q 0,R Q n,R Q rs.length,G a3 q3.length c3,G a6 q6.length c6]) (fun k hk=>(ae k hk).2);have Rr:=N.row #[R Q 0,R Q n,R Q rs.length,G a3 q3.length c3,G a6 q6.length c6]
  go_wp2_with (first|(refine z0s (by kernel_rfl) 216 _ _ rfl _ #[R Q 0,R Q n,R Q rs.length,G a3 q3.length c3,G a6 q6.length c6] rfl rfl 216 _ N z5C rfl (by simp[Value.oneCell']) ?_))
  obtain⟨ap,aq,ar,au,av⟩:=Rr.cel5;refine bodyPost_ret (v:=.agg #[R Q 0,R Q n,R Q rs.length,G a3 q3.length c3,G a6 q6.length c6]) (by simp[results,results179,go_sem,ap,aq,ar,au,av]) rfl ?_;refine⟨G a3 q3.length c3,G a6 q6.length c6,q3,q6,?_,aN.out,ag.out,O3.out,O6.out,nA,gA,KF⟩;rw[E1.out.1,E1.out.2]
def InstQ.setR(q:InstQ)(r n:Nat)(x:Int)(hr:r<q.rounds.length):InstQ:=⟨q.has,q.vb,q.batch,q.vr,q.rounds.set r ⟨q.rounds[r].vr,q.rounds[r].rep.set n x,q.rounds[r].vp,q.rounds[r].pro⟩,q.vd,q.dec⟩
theorem z8N{w w':World}{b o:Nat}{v:Value}(h:w.cell? ⟨b,o,none⟩=some v)(hb:Below w.heap.size w w'):w'.cell? ⟨b,o,none⟩=some v:=by
 have hlt:b<w.heap.size:=by
  rcases Nat.lt_or_ge b w.heap.size with h1|h1
  ·exact h1
  ·exfalso
   have:w.heap[b]?=none:=Array.getElem?_eq_none h1;simp[World.cell?,this]at h
 rw[hb.cell (p:=⟨b,o,none⟩) hlt];exact h
theorem q36{ds:List TxnD}(h:allF ds=0):∀d∈ds,d.F=0:=by
 induction ds with
 |nil=>intro d hd;simp at hd
 |cons x r ih=>
  intro d hd;simp only[allF]at h;by_cases hx:x.F=0
  ·rw[if_pos hx]at h;rcases List.mem_cons.1 hd with rfl|hd
   ·exact hx
   ·exact ih h d hd
  ·rw[if_neg hx]at h;exact absurd h hx
def dfC(ds:List InstE)(n:Int):Int:=if ordF ds=0 then(if 0≤n∧n≤(decN ds:Int)then 0 else 3)else ordF ds
def dfT(ds:List InstE)(n:Int):List TxnD:=if dfC ds n=0 then defL ds n.toNat else []
theorem z7w(ds:List InstE)(n:Int):(ordF ds≠0∧dfC ds n=ordF ds∧dfT ds n=[])∨(ordF ds=0∧¬(0≤n∧n≤(decN ds:Int))∧dfC ds n=3∧dfT ds n=[])∨(ordF ds=0∧(0≤n∧n≤(decN ds:Int))∧dfC ds n=0∧dfT ds n=defL ds n.toNat):=by
 unfold dfT dfC;by_cases h0:ordF ds=0
 ·by_cases h1:0≤n∧n≤(decN ds:Int)
  ·right;right;refine⟨h0,h1,?_,?_⟩
   ·rw[if_pos h0,if_pos h1]
   ·rw[if_pos h0,if_pos h1,if_pos rfl]
  ·right;left;refine⟨h0,h1,?_,?_⟩
   ·rw[if_pos h0,if_neg h1]
   ·rw[if_pos h0,if_neg h1,if_neg (by decide)]
 ·left;simp[h0]
theorem q7g{p:InstQ}(h:insF (f p)=0):p.batch.length≤4:=by
 obtain⟨h0,_⟩:=z2l h;obtain⟨_,_,_,hb0,hb1⟩:=z1z h0
 cases hh:(f p).has with
 |false=>
  have:=hb0 hh;have h2:p.batch.map P=[]:=this;have:p.batch=[]:=by simpa using h2
  rw[this];simp
 |true=>
  have:=hb1 hh;unfold batF at this;by_cases hl:(f p).batch.length<1∨4<(f p).batch.length
  ·rw[if_pos hl]at this;exact absurd this (by decide)
  ·have h2:(f p).batch.length=p.batch.length:=by show(p.batch.map P).length=_;simp
   omega
theorem rgtb{x:InstE}(h:insF x=0):x.has=false→x.batch=[]:=by
 obtain⟨h0,_⟩:=z2l h;exact(z1z h0).2.2.2.1
theorem batp{p:InstQ}(h:insF (f p)=0)(hh:p.has=true):0<p.batch.length:=by
 obtain⟨h0,_⟩:=z2l h;have:=(z1z h0).2.2.2.2 hh;unfold batF at this;by_cases hl:(f p).batch.length<1∨4<(f p).batch.length
 ·rw[if_pos hl]at this;exact absurd this (by decide)
 ·have h2:(f p).batch.length=p.batch.length:=by show(p.batch.map P).length=_;simp
  omega
theorem q5y{ds:List InstE}(k:Nat)(hk:k<ds.length)(h0:insF (ds.getD k z0S)=0)(h:((ds.getD k z0S).has && (ocV (ds.getD k z0S)==1))=true):z30 (ds.take (k+1))=z30 (ds.take k)++(ds.getD k z0S).batch:=by
 rw[z5x ds k hk];rw[Bool.and_eq_true,beq_iff_eq]at h;have hv:=h.2;unfold ocV at hv;rw[if_pos h0]at hv;by_cases h3:outV (ds.getD k z0S).dec=3
 ·rw[if_pos h3]at hv;exact absurd hv (by decide)
 ·rw[if_neg h3]at hv;rw[if_pos hv]
theorem q6u{ds:List InstE}(k:Nat)(hk:k<ds.length)(h0:insF (ds.getD k z0S)=0)(h:((ds.getD k z0S).has && (ocV (ds.getD k z0S)==1))=false):z30 (ds.take (k+1))=z30 (ds.take k):=by
 rw[z5x ds k hk];rw[Bool.and_eq_false_iff]at h;have hb0:=(rgtb h0)
 rcases h with h|h
 ·rw[hb0 h];simp
 ·have hv:¬ocV (ds.getD k z0S)=1:=by simpa using h
  unfold ocV at hv;rw[if_pos h0]at hv;by_cases h3:outV (ds.getD k z0S).dec=3
  ·rw[if_neg (by rw[h3];decide)];simp
  ·rw[if_neg h3]at hv;rw[if_neg hv];simp
theorem z9S(v:Value)(ps:List InstQ)(w:World)(hG:Rul w)(h:instK.At w v ps)(av:∀p∈ps,insF (f p)=0)(h4:ps.length≤4)(hl:(ps.length+nmL InstQ.n ps)≤1048576):
  Calls B 75 #[v] w fun e w'=>∃ (v':Value) (qs:List TxnQ),e=.returned v'∧qs.map P=z30 (ps.map f)∧qs.length≤16∧w'.ownsRow w.heap.size 39 4 v' qs.length (txnK.row qs)∧(∀q∈qs,txnK.rd w q)∧Below w.heap.size w w':=by
 obtain⟨a,cap,rfl⟩:=h.shape;obtain⟨i0,hi,az,aA,aB⟩:=info_parts z1f;have ai:w.ownsRow w.heap.size 39 4 (G none 0 0) ([]:List TxnQ).length (txnK.row []):=World.ownsRow_nil _ _ _ _;have ad:Hid (([]:List TxnQ).map P=z30 ((ps.map f).take 0)):=by show _=_;simp[z30]
 have ae:Hid (([]:List TxnQ).length≤4*0):=by show _≤_;simp
 have ag:Hid (∀q∈([]:List TxnQ),txnK.rd w q):=fun q hq=>by simp at hq
 go_enter func75,ntmps75
 go_wp2
 go_loopw[3,8] (fun v j wr=>∃ (k:Nat) (qs:List TxnQ),k≤ps.length∧j=R Q k∧Hid (qs.map P=z30 ((ps.map f).take k))∧Hid (qs.length≤4*k)∧wr.ownsRow w.heap.size 39 4 v qs.length (txnK.row qs)∧Hid (∀q∈qs,txnK.rd w q)∧Below w.heap.size w wr) (fun _ j _=>ps.length-(intOf j).toNat)
 case atStart=>exact⟨0,[],Nat.zero_le _,rfl,ad,ae,ai,ag,Below.refl _ _⟩
 case round=>
  clear ad ae ai ag;obtain⟨k,qs,hk,rfl,HE,HL,hO,HR,hb⟩:=hrel;obtain⟨sa,sc,rfl⟩:=z0g hO;by_cases A:k<ps.length
  ·have h0:=av _ (List.getElem_mem A);have z:=z5v ps k A;have HY:Hid ((ps[k].has && (ocV (f ps[k])==1))=true→z30 ((ps.map f).take (k+1))=qs.map P++ps[k].batch.map P):=fun hx=>by
    rw[HE.out];have:=q5y (ds:=ps.map f) k (by simpa using A) (by rw[z];exact h0) (by rw[z];exact hx);rw[z]at this;exact this
   have HN:Hid ((ps[k].has && (ocV (f ps[k])==1))=false→z30 ((ps.map f).take (k+1))=qs.map P):=fun hx=>by
    rw[HE.out];exact q6u (ds:=ps.map f) k (by simpa using A) (by rw[z];exact h0) (by rw[z];exact hx)
   have ao:=q7g h0;have D:Hid (ps[k].has=true→0<ps[k].batch.length):=fun hx=>batp h0 hx
   have hn:InstQ.n ps[k]≤1048576:=by have:=z6B ps k A;omega
   have T:=z2I ps[k];have M:=fun w hG h=>T w hG h hn
   obtain⟨b,aC,rfl,ar,hc,O⟩:=h.cell (by decide) k A;have I:∀j x,(instK.cells ps[k])[j]?=some x→w.cell? ⟨b,aC+k*4+j,none⟩=some x:=hc;have c0:=z8N (I 0 (.bool ps[k].has) rfl) hb;have c1:=z8N (I 1 ps[k].vb rfl) hb;have c2:=z8N (I 2 ps[k].vr rfl) hb;have c3:=z8N (I 3 ps[k].vd rfl) hb;rw[Nat.add_zero]at c0;have aD:b<wr.heap.size:=Nat.lt_of_lt_of_le ar hb.size;clear hc I T h0 z HE;generalize ocC (f ps[k])=OC at*;generalize ocV (f ps[k])=OV at*;generalize ps[k]=p at*;obtain⟨has,vb,d,vr,y,vd,dec⟩:=p;have hT:txnK.At w vb d:=O.1;obtain⟨ba,bk,rfl⟩:=hT.shape;obtain⟨va,vk,rfl⟩:∃a c,vr=G a y.length c:=O.2.1.shape;obtain⟨da,dk,rfl⟩:∃a c,vd=G a dec.length c:=O.2.2.shape;dsimp only at c0 c1 c2 c3 M HY HN ao D;have ab:Below wr.heap.size wr (wr.alloc (.cells #[.bool has,G ba d.length bk,G va y.length vk,G da dec.length dk] 117)):=by go_grown
   have Yb:=Blk.new wr 117 #[.bool has,G ba d.length bk,G va y.length vk,G da dec.length dk];replace hO:=z0b hO ab;replace hb:=hb.trans (ab.mono hb.size);have aE:=q5m OC OV;have af:Hid (qs.length≤16):=show _≤_ by have:=HL.out;omega
   cases has with
   |false=>
    have E:Hid (qs.map P=z30 ((ps.map f).take (k+1))):=show _=_ by rw[HN.out rfl]
    have C:Hid (qs.length≤4*(k+1)):=show _≤_ by have:=HL.out;omega
    clear HY HN D HL M Yb
    go_wp2_with fail
    generalize wr.alloc (.cells #[.bool false,G ba d.length bk,G va y.length vk,G da dec.length dk] 117)=Y at*
    go_wp2
    go_roundw
    case rel=>exact⟨k+1,qs,by omega,by go_num,E,C,hO,HR,hb⟩
    case measure=>simp[intOf];omega
   |true=>
    have am:=instK.rd_below (w':=wr.alloc (.cells #[.bool true,G ba d.length bk,G va y.length vk,G da dec.length dk] 117)) O hb
    go_wp2_with fail
    generalize wr.alloc (.cells #[.bool true,G ba d.length bk,G va y.length vk,G da dec.length dk] 117)=Y at*;clear c0 c1 c2 c3 ab;refine(M Y (hG.below hb) am).mono ?_;rintro e w2 ⟨rfl,L⟩;replace hO:=z0b hO L;replace hb:=hb.trans (L.mono hb.size);replace Yb:=Yb.below L;clear L M am
    cases hv:(OV==1)with
    |false=>
     have E:Hid (qs.map P=z30 ((ps.map f).take (k+1))):=show _=_ by rw[HN.out (by rw[hv];rfl)]
     have C:Hid (qs.length≤4*(k+1)):=show _≤_ by have:=HL.out;omega
     clear HY HN D HL Yb
     go_wp2
     go_roundw
     case rel=>exact⟨k+1,qs,by omega,by go_num,E,C,hO,HR,hb⟩
     case measure=>simp[intOf];omega
    |true=>
     have ah:=HY.out (by rw[hv];rfl);have ax:=D.out (by simp);have E:Hid ((qs++d).map P=z30 ((ps.map f).take (k+1))):=show _=_ by rw[ah,List.map_append]
     have C:Hid ((qs++d).length≤4*(k+1)):=show _≤_ by have:=HL.out;rw[List.length_append];omega
     have an:Hid (∀q∈qs++d,txnK.rd w q):=fun q hq=>by
      rcases List.mem_append.1 hq with hq|hq
      ·exact HR.out q hq
      ·obtain⟨a9,c9,e9,Z,N⟩:=hT;exact N q hq
     have aa:=hT.below hb;obtain⟨bb,bo,aq⟩:∃bb bo,ba=some ⟨bb,bo,none⟩:=by
      obtain⟨b9,o9,e9,_⟩:=aa.cell (by decide) 0 ax;exact⟨b9,o9,e9⟩
     subst aq;have X:∀j u,(txnK.row d)[j]?=some u→w2.cell? ((⟨bb,bo,none⟩:Addr).add j)=some u:=fun j u hu=>by
      obtain⟨a9,c9,e9,Z,N⟩:=aa;simp only[Value.slice.injEq]at e9;obtain⟨rfl,_,rfl⟩:=e9;rcases Z with h9|⟨b9,o9,ea,_,au⟩
      ·rw[h9]at hu;simp at hu
      ·simp only[Option.some.injEq,Addr.mk.injEq,and_true]at ea;obtain⟨rfl,rfl⟩:=ea;rw[Addr.add_lit];exact au j u hu
     have U:∀u∈txnK.row d,u.oneCell'=true:=fun u hu=>by
      obtain⟨q,hq,hu⟩:=List.mem_flatMap.1 hu;have ay:∃a c,q.va=G a q.acts.length c:=by
       obtain⟨a9,c9,e9,Z,N⟩:=hT;have h9:actK.At w q.va q.acts:=N q hq;exact h9.shape
      obtain⟨a9,c9,e9⟩:=ay;have al:u∈[Value.int .i64 q.i,R Q q.s,R Q q.q,q.va]:=hu;simp only[List.mem_cons,List.not_mem_nil,or_false]at al;rcases al with rfl|rfl|rfl|rfl
      ·rfl
      ·rfl
      ·rfl
      ·rw[e9];rfl
     have ak:(txnK.row d).length=d.length*4:=Kind.row_length d;have y1:=Yb.cell 1 _ rfl;clear HY HN D HL HR ah
     go_wp2_with (at_builtin;refine wpList_append_own_at _ rfl _ _ 25 rfl w.heap.size 39 i0 (.agg #[R Q 0,R Q 0,R Q 0,G none 0 0]) 4 48 Tryz.underlying25 hi az aA aB rfl (by decide) _ qs.length (txnK.row qs) rfl hO ⟨bb,bo,none⟩ d.length bk (txnK.row d) rfl ak X U ?c3 ?c4 ?c5 ?_)
     all_goals try(case c3=>have:=af.out;unfold maxLen;omega)
     all_goals try(case c4=>have:=af.out;omega)
     all_goals try(case c5=>exact hb.size)
     intro v' w5 V J aj z;have W:txnK.row (qs++d)=txnK.row qs++txnK.row d:=by simp[Kind.row]
     rw[←W,←List.length_append]at V;have ap:Below w.heap.size w w5:=hb.grown J hb.size (fun j hj=>(hO.lt j hj).1);clear aj z J W hO X U ak y1 Yb aa hb
     go_wp2
     go_roundw
     case rel=>exact⟨k+1,_,by omega,by go_num,E,C,V,an,ap⟩
     case measure=>simp[intOf];omega
  ·have aw:k=ps.length:=by omega
   subst aw;have hE:=HE.out;rw[List.take_of_length_le (by simp)]at hE;have hL:=HL.out;clear HE
   go_wp2
   go_ret;first|exact⟨_,qs,rfl,hE,by omega,hO,HR.out,hb⟩|exact⟨_,rfl,qs,hE,by omega,hO,HR.out,hb⟩
section
open Go.Maps
theorem q6v:laidOutB B=true:=by kernel_rfl
theorem q6w:(186:TypeId)<B.types.size:=of_decide_eq_true (by kernel_rfl)
theorem q4G:(match B.underlying 186 with|some (.array _ _)|some (.struct _)=>true|_=>false)=true:=by kernel_rfl
theorem lawNm:Keyed B 186:=Keyed.of_law (deep_law_laid q6v (m:=2) (by omega) q6w (by kernel_rfl) q4G)
theorem q6x:B.keyType 186=true:=by kernel_rfl
theorem szP:∃m,B.types.size+1=m+2:=⟨_,rfl⟩
theorem q6y(i s q:Int)(hi:(Lit.int .i64 i).wf=true)(hs:(Lit.int .i64 s).wf=true)(hq:(Lit.int .i64 q).wf=true):∃l,keyOf B 186 (.agg #[R Q i,R Q s,R Q q])=some l:=by
 obtain⟨m,hm⟩:=szP;have hc:B.cellsOf 186=3:=by kernel_rfl
 have hc1:B.cellsOf 2=1:=by kernel_rfl
 have hf:(Value.agg #[R Q i,R Q s,R Q q]).formed B 186=true:=by
  simp[Value.formed,Tryz.underlying186,hc]
 unfold keyOf;rw[Tryz.underlying186];simp only[q6x,hf,Bool.and_self,if_true,hm];simp[Program.keyLits,Tryz.underlying186,Tryz.underlying2,hc,hc1,Value.cells,hi,hs,hq]
abbrev Nm:=Int × Int × Int
def nmV(x:Nm):Value:=.agg #[R Q x.1,R Q x.2.1,R Q x.2.2]
def nmW(x:Nm):Prop:=(Lit.int .i64 x.1).wf=true∧(Lit.int .i64 x.2.1).wf=true∧(Lit.int .i64 x.2.2).wf=true
noncomputable def kyL (x:Nm):Lit:=(keyOf B 186 (nmV x)).getD (.bool false)
theorem z4k{x:Nm}(h:nmW x):keyOf B 186 (nmV x)=some (kyL x):=by
 obtain⟨l,hl⟩:=q6y x.1 x.2.1 x.2.2 h.1 h.2.1 h.2.2;have e:keyOf B 186 (nmV x)=some l:=hl;unfold kyL;rw[e];rfl
theorem q5z{x y:Nm}(hx:nmW x)(hy:nmW y)(h:kyL x=kyL y):x=y:=by
 have e1:=z4k hx;have e2:=z4k hy;rw[←h]at e2;have e:=lawNm.inj e1 e2;obtain⟨a,b,c⟩:=x;obtain⟨a',b',c'⟩:=y;simp[nmV]at e;obtain⟨rfl,rfl,rfl⟩:=e;rfl
def Cnt{H:Type}(D:DataW H)(ns:List Nm):Prop:=IsMap D∧∀x,nmW x→D.atKey (kyL x) (.lit (.int .i64 0))=.lit (.int .i64 (ns.count x))
theorem Cnt.none{H:Type}:Cnt (H:=H) (.map []) []:=⟨⟨[],rfl⟩,fun x _=>rfl⟩
theorem Cnt.put{H:Type}{D:DataW H}{ns:List Nm}(h:Cnt D ns){x:Nm}(hx:nmW x):Cnt (D.put (kyL x) (.lit (.int .i64 ((ns.count x:Int)+1)))) (ns++[x]):=by
 refine⟨h.1.put _ _,fun y hy=>?_⟩;by_cases e:y=x
 ·subst e;rw[atKey_put_same h.1 (lawNm.key (z4k hx))];simp[List.count_append]
 ·rw[atKey_put_other (fun e1=>e (q5z hy hx e1)),h.2 y hy];have:[x].count y=0:=List.count_eq_zero.2 (by simpa using e);simp[List.count_append,this]
def nmA(t:TxnD):Nm:=(t.id,0,0)
def nmB(t:TxnD):Nm:=(0,t.session,t.seq)
def nms(acc:List TxnD):List Nm:=acc.flatMap (fun t=>[nmA t,nmB t])
theorem q37(acc:List TxnD)(t:TxnD):nms (acc++[t])=nms acc++[nmA t]++[nmB t]:=by
 simp[nms]
theorem q2E(acc:List TxnD):(nms acc).length=2*acc.length:=by
 induction acc with
 |nil=>rfl
 |cons a r ih=>
  have:nms (a::r)=nmA a::nmB a::nms r:=rfl;rw[this];simp only[List.length_cons,ih];omega
theorem z9T{acc:List TxnD}{t:TxnD}(ha:∀x∈acc,1≤x.id)(ht:1≤t.id):knw acc t=true↔0<(nms acc).count (nmA t)∨0<(nms acc).count (nmB t):=by
 rw[List.count_pos_iff,List.count_pos_iff];unfold knw nms stF;rw[List.any_eq_true];constructor
 ·rintro⟨x,hx,h⟩;simp only[Bool.or_eq_true,Bool.and_eq_true,beq_iff_eq]at h;rcases h with h|⟨h1,h2⟩
  ·exact Or.inl (List.mem_flatMap.2 ⟨x,hx,by simp[nmA,h]⟩)
  ·exact Or.inr (List.mem_flatMap.2 ⟨x,hx,by simp[nmB,h1,h2]⟩)
 ·rintro(h|h)
  ·obtain⟨x,hx,h⟩:=List.mem_flatMap.1 h;have hx1:=ha x hx;simp only[nmA,nmB,List.mem_cons,Prod.mk.injEq,List.not_mem_nil,or_false]at h;rcases h with h|h
   ·exact⟨x,hx,by simp[h.1]⟩
   ·omega
  ·obtain⟨x,hx,h⟩:=List.mem_flatMap.1 h;have hx1:=ha x hx;simp only[nmA,nmB,List.mem_cons,Prod.mk.injEq,List.not_mem_nil,or_false]at h;rcases h with h|h
   ·omega
   ·exact⟨x,hx,by simp[h.2.1,h.2.2]⟩
end
end Go.Proofs.YtlkpdgjnhkjpjaaGreatDoor

import Derived.Test.YtjjoahhnkpjolaaGreatDoorONAU
set_option linter.unusedVariables false
set_option linter.unusedSimpArgs false
set_option maxRecDepth 100000
set_option maxHeartbeats 8000000
namespace Go.Proofs.YtjjoahhnkpjolaaGreatDoor
open Go.RowKit Go.BigFrame
open InstQ renaming e->B
open Nat renaming le_refl->P
open List renaming length_map->s,mem_singleton->l
open IntKind renaming i64->S
open Value renaming int->G,slice->Q
open Go.Proofs.Tryz renaming prog->H
open Go.Proofs.Tryz
def q2R:InstE:=⟨false,[],[z7G],[3,3,3]⟩
theorem z3D(w:World)(hO:Opn w):
  Calls H 57 #[] w fun e w'=>∃q:InstQ,e=.returned (.agg (q6V 0 0 false false 0 q))∧q.e=q2R∧instK.own w' q∧(instK.foot q).Nodup∧(∀k∈instK.foot q,w.heap.size≤k)∧Below w.heap.size w w':=by
 have hB:Below w.heap.size w (w.alloc (.cells #[G S 0,G S 0,.bool false,.bool false,G S 0,.bool false,Q none 0 0,Q none 0 0,Q none 0 0] 111)):=by go_grown
 have Rb:=Blk.new w 111 #[G S 0,G S 0,.bool false,.bool false,G S 0,.bool false,Q none 0 0,Q none 0 0,Q none 0 0];have T:=(hO.below hB).range;have Bz:=Blk.new (w.alloc (.cells #[G S 0,G S 0,.bool false,.bool false,G S 0,.bool false,Q none 0 0,Q none 0 0,Q none 0 0] 111)) 138 #[G S 0,G S 0,G S 0,G S 0,G S 0,G S 0,G S 0,G S 0,G S 0,G S 0,G S 0,G S 0,G S 0,G S 0,G S 0,G S 0,G S 0,G S 0,G S 0,G S 0,G S 0,G S 0,G S 0,G S 0,G S 0,.bool false,Q none 0 0,G S 0,G S 0,G S 0];have C:Below (w.alloc (.cells #[G S 0,G S 0,.bool false,.bool false,G S 0,.bool false,Q none 0 0,Q none 0 0,Q none 0 0] 111)).heap.size (w.alloc (.cells #[G S 0,G S 0,.bool false,.bool false,G S 0,.bool false,Q none 0 0,Q none 0 0,Q none 0 0] 111)) ((w.alloc (.cells #[G S 0,G S 0,.bool false,.bool false,G S 0,.bool false,Q none 0 0,Q none 0 0,Q none 0 0] 111)).alloc (.cells #[G S 0,G S 0,G S 0,G S 0,G S 0,G S 0,G S 0,G S 0,G S 0,G S 0,G S 0,G S 0,G S 0,G S 0,G S 0,G S 0,G S 0,G S 0,G S 0,G S 0,G S 0,G S 0,G S 0,G S 0,G S 0,.bool false,Q none 0 0,G S 0,G S 0,G S 0] 138)):=by go_grown
 have U:=((hO.below hB).below C).range;have aa:w.heap.size<(w.alloc (.cells #[G S 0,G S 0,.bool false,.bool false,G S 0,.bool false,Q none 0 0,Q none 0 0,Q none 0 0] 111)).heap.size:=by simp
 have z:=z0o (hB.trans (C.mono hB.size)) (g:=(w.alloc (.cells #[G S 0,G S 0,.bool false,.bool false,G S 0,.bool false,Q none 0 0,Q none 0 0,Q none 0 0] 111)).heap.size) hB.size #[G S 0,G S 0,G S 0,G S 0,G S 0,G S 0,G S 0,G S 0,G S 0,G S 0,G S 0,G S 0,G S 0,G S 0,G S 0,G S 0,G S 0,G S 0,G S 0,G S 0,G S 0,G S 0,G S 0,G S 0,G S 0,.bool false,Q none 0 0,G S 3,G S 3,G S 3];have D:Blk (((w.alloc (.cells #[G S 0,G S 0,.bool false,.bool false,G S 0,.bool false,Q none 0 0,Q none 0 0,Q none 0 0] 111)).alloc (.cells #[G S 0,G S 0,G S 0,G S 0,G S 0,G S 0,G S 0,G S 0,G S 0,G S 0,G S 0,G S 0,G S 0,G S 0,G S 0,G S 0,G S 0,G S 0,G S 0,G S 0,G S 0,G S 0,G S 0,G S 0,G S 0,.bool false,Q none 0 0,G S 0,G S 0,G S 0] 138)).setRow (w.alloc (.cells #[G S 0,G S 0,.bool false,.bool false,G S 0,.bool false,Q none 0 0,Q none 0 0,Q none 0 0] 111)).heap.size #[G S 0,G S 0,G S 0,G S 0,G S 0,G S 0,G S 0,G S 0,G S 0,G S 0,G S 0,G S 0,G S 0,G S 0,G S 0,G S 0,G S 0,G S 0,G S 0,G S 0,G S 0,G S 0,G S 0,G S 0,G S 0,.bool false,Q none 0 0,G S 3,G S 3,G S 3]) w.heap.size 111 #[G S 0,G S 0,.bool false,.bool false,G S 0,.bool false,Q none 0 0,Q none 0 0,Q none 0 0]:=(setRow_other _ _ _ _ (by omega)).trans (Rb.below C);have B2:=Bz.row #[G S 0,G S 0,G S 0,G S 0,G S 0,G S 0,G S 0,G S 0,G S 0,G S 0,G S 0,G S 0,G S 0,G S 0,G S 0,G S 0,G S 0,G S 0,G S 0,G S 0,G S 0,G S 0,G S 0,G S 0,G S 0,.bool false,Q none 0 0,G S 3,G S 3,G S 3];have L:=(hO.below z)
 have A:=L.range;have Y:(H.info? 138).map (·.size)=some (#[G S 0,G S 0,G S 0,G S 0,G S 0,G S 0,G S 0,G S 0,G S 0,G S 0,G S 0,G S 0,G S 0,G S 0,G S 0,G S 0,G S 0,G S 0,G S 0,G S 0,G S 0,G S 0,G S 0,G S 0,G S 0,.bool false,Q none 0 0,G S 3,G S 3,G S 3]:Array Value).size:=by kernel_rfl
 have O:(#[G S 0,G S 0,G S 0,G S 0,G S 0,G S 0,G S 0,G S 0,G S 0,G S 0,G S 0,G S 0,G S 0,G S 0,G S 0,G S 0,G S 0,G S 0,G S 0,G S 0,G S 0,G S 0,G S 0,G S 0,G S 0,.bool false,Q none 0 0,G S 3,G S 3,G S 3]:Array Value).all (·.oneCell')=true:=by kernel_rfl
 have V:(w.alloc (.cells #[G S 0,G S 0,.bool false,.bool false,G S 0,.bool false,Q none 0 0,Q none 0 0,Q none 0 0] 111)).heap.size≠0:=by have h1:=hO.glob;have h2:=aa;omega
 have M:Calls H 98 #[.pointer (some ⟨(w.alloc (.cells #[G S 0,G S 0,.bool false,.bool false,G S 0,.bool false,Q none 0 0,Q none 0 0,Q none 0 0] 111)).heap.size,0,none⟩),G S 0] (((w.alloc (.cells #[G S 0,G S 0,.bool false,.bool false,G S 0,.bool false,Q none 0 0,Q none 0 0,Q none 0 0] 111)).alloc (.cells #[G S 0,G S 0,G S 0,G S 0,G S 0,G S 0,G S 0,G S 0,G S 0,G S 0,G S 0,G S 0,G S 0,G S 0,G S 0,G S 0,G S 0,G S 0,G S 0,G S 0,G S 0,G S 0,G S 0,G S 0,G S 0,.bool false,Q none 0 0,G S 0,G S 0,G S 0] 138)).setRow (w.alloc (.cells #[G S 0,G S 0,.bool false,.bool false,G S 0,.bool false,Q none 0 0,Q none 0 0,Q none 0 0] 111)).heap.size #[G S 0,G S 0,G S 0,G S 0,G S 0,G S 0,G S 0,G S 0,G S 0,G S 0,G S 0,G S 0,G S 0,G S 0,G S 0,G S 0,G S 0,G S 0,G S 0,G S 0,G S 0,G S 0,G S 0,G S 0,G S 0,.bool false,Q none 0 0,G S 3,G S 3,G S 3]) _:=q2G (w.alloc (.cells #[G S 0,G S 0,.bool false,.bool false,G S 0,.bool false,Q none 0 0,Q none 0 0,Q none 0 0] 111)).heap.size 138 [] ([.bool false,Q none 0 0]++([3,3,3]:List Int).map iv) 0 (((w.alloc (.cells #[G S 0,G S 0,.bool false,.bool false,G S 0,.bool false,Q none 0 0,Q none 0 0,Q none 0 0] 111)).alloc (.cells #[G S 0,G S 0,G S 0,G S 0,G S 0,G S 0,G S 0,G S 0,G S 0,G S 0,G S 0,G S 0,G S 0,G S 0,G S 0,G S 0,G S 0,G S 0,G S 0,G S 0,G S 0,G S 0,G S 0,G S 0,G S 0,.bool false,Q none 0 0,G S 0,G S 0,G S 0] 138)).setRow (w.alloc (.cells #[G S 0,G S 0,.bool false,.bool false,G S 0,.bool false,Q none 0 0,Q none 0 0,Q none 0 0] 111)).heap.size #[G S 0,G S 0,G S 0,G S 0,G S 0,G S 0,G S 0,G S 0,G S 0,G S 0,G S 0,G S 0,G S 0,G S 0,G S 0,G S 0,G S 0,G S 0,G S 0,G S 0,G S 0,G S 0,G S 0,G S 0,G S 0,.bool false,Q none 0 0,G S 3,G S 3,G S 3]) L V B2 (fun r hr=>by simp at hr) (by simp) (by omega);simp only[World.size_alloc]at Bz B2 M z D C aa A;go_enter func57,ntmps57
 go_wp2_with (first|(refine z7j (by kernel_rfl) 131 _ rfl _ _ rfl [G S 3,G S 3,G S 3] _ T Tryz.underlying131 rfl z18 ?_)|(refine z7j (by kernel_rfl) 131 _ rfl _ _ rfl [G S 3,G S 3,G S 3] _ U Tryz.underlying131 rfl z18 ?_)|(refine z7j (by kernel_rfl) 131 _ rfl _ _ rfl [G S 3,G S 3,G S 3] _ A Tryz.underlying131 rfl z18 ?_)|(refine z0A (by kernel_rfl) 138 _ _ rfl _ #[G S 0,G S 0,G S 0,G S 0,G S 0,G S 0,G S 0,G S 0,G S 0,G S 0,G S 0,G S 0,G S 0,G S 0,G S 0,G S 0,G S 0,G S 0,G S 0,G S 0,G S 0,G S 0,G S 0,G S 0,G S 0,.bool false,Q none 0 0,G S 3,G S 3,G S 3] rfl rfl 138 _ Bz Y rfl O ?_))
 refine M.mono ?_;rintro e X ⟨rfl,B3,hU⟩;clear M T U A L B2 Bz C hB V;have R3:Blk X w.heap.size 111 _:=(hU.block _ D.lt (by simp)).trans D;have E:=Out.keep z hU z.size (fun k hk=>by simp only[l]at hk;omega);have Z:Wel [z7G]:=fun r hr=>by simp only[l]at hr;subst hr;exact⟨rfl,rfl⟩
 have W:=fun w (hT:txnK.At w (Q none 0 0) ([]:List TxnQ))=>z8u false (Q none 0 0) [] [z7G] [3,3,3] w hT (fun p hp=>by simp at hp) (by simp[nmL]) Z (by simp) rfl
 have ad:∀w,txnK.At w (Q none 0 0) ([]:List TxnQ):=fun w=>(Kind.own_nil (K:=txnK) w).1.at
 change Blk X _ _ (brdC false (Q none 0 0) [z7G] [3,3,3]).toArray at B3;have af:=B3.lt;have X4:=rng B3 (brdC false (Q none 0 0) [z7G] [3,3,3]) (o:=0) (fun j v hv=>by rw[Nat.zero_add,List.getElem?_toArray];exact hv);have J:(H.info? 138).map (·.size)=some (brdC false (Q none 0 0) [z7G] [3,3,3]).length:=by kernel_rfl
 clear B3 hU Rb D z;generalize brdC false (Q none 0 0) [z7G] [3,3,3]=BR at*
 go_wp2_with (first|(refine z7j (by kernel_rfl) 138 _ rfl _ _ rfl BR _ X4 Tryz.underlying138 rfl J ?_))
 clear X4 J;refine(W X (ad X)).mono ?_;rintro e w7 ⟨q,rfl,eq,oq,nq,gq,N⟩;have R5:=R3.below N;have L5:∀k∈instK.foot q,w.heap.size+2≤k:=fun k hk=>by have:=gq k hk;omega
 replace E:=E.trans (N.mono E.size);have I:∀cs,instK.own (w7.setRow w.heap.size cs) q:=fun cs=>instK.own_out oq (z0x w7 w.heap.size cs) (fun k hk=>by have:=L5 k hk;simp only[l];omega)
 have HQ:Hid (q.e=q2R∧(instK.foot q).Nodup∧(∀k∈instK.foot q,w.heap.size≤k)∧∀cs,instK.own (w7.setRow w.heap.size cs) q):=⟨eq,nq,fun k hk=>by have:=L5 k hk;omega,I⟩
 clear W gq N R3 eq nq I L5;obtain⟨qh,qb,d,qr,y,qd,x⟩:=q;obtain⟨s1,t1,rfl⟩:∃a c,qb=Q a d.length c:=oq.1.shape;obtain⟨s2,t2,rfl⟩:∃a c,qr=Q a y.length c:=oq.2.1.shape;obtain⟨s3,t3,rfl⟩:∃a c,qd=Q a x.length c:=oq.2.2.shape;have Rr:=R5.row #[G S 0,G S 0,.bool false,.bool false,G S 0,.bool qh,Q s1 d.length t1,Q s2 y.length t2,Q s3 x.length t3];have ab:=z0o E (g:=w.heap.size) (P _) #[G S 0,G S 0,.bool false,.bool false,G S 0,.bool qh,Q s1 d.length t1,Q s2 y.length t2,Q s3 x.length t3];have ae:(H.info? 111).map (·.size)=some (#[G S 0,G S 0,.bool false,.bool false,G S 0,.bool qh,Q s1 d.length t1,Q s2 y.length t2,Q s3 x.length t3]:Array Value).size:=q6c;clear oq
 go_wp2_with (first|(refine z0A (by kernel_rfl) 111 _ _ rfl _ #[G S 0,G S 0,.bool false,.bool false,G S 0,.bool qh,Q s1 d.length t1,Q s2 y.length t2,Q s3 x.length t3] rfl rfl 111 _ R5 ae rfl (by simp[Value.oneCell']) ?_))
 obtain⟨q0,q1,q2,q3,q4,q5,q6,q7,q8⟩:=Rr.cel9;exact bodyPost_ret (v:=.agg #[G S 0,G S 0,.bool false,.bool false,G S 0,.bool qh,Q s1 d.length t1,Q s2 y.length t2,Q s3 x.length t3]) (by simp[results,results57,go_sem,q0,q1,q2,q3,q4,q5,q6,q7,q8]) rfl ⟨⟨qh,Q s1 d.length t1,d,Q s2 y.length t2,y,Q s3 x.length t3,x⟩,rfl,HQ.out.1,HQ.out.2.2.2 _,HQ.out.2.1,HQ.out.2.2.1,ab⟩
theorem q2S(w:World):
  Calls H 94 #[] w fun e w'=>∃q:InstQ,e=.returned (.agg #[.bool q.has,q.vb,q.vr,q.vd])∧q.e=q2R∧instK.own w' q∧(instK.foot q).Nodup∧(∀k∈instK.foot q,w.heap.size≤k)∧Below w.heap.size w w':=by
 have hB:Below w.heap.size w (w.alloc (.cells #[.bool false,Q none 0 0,Q none 0 0,Q none 0 0] 89)):=by go_grown
 have Rb:=Blk.new w 89 #[.bool false,Q none 0 0,Q none 0 0,Q none 0 0];go_enter func94,ntmps94
 go_wp2_with fail
 have T:w.heap.size<(w.alloc (.cells #[.bool false,Q none 0 0,Q none 0 0,Q none 0 0] 89)).heap.size:=by simp
 generalize w.alloc (.cells #[.bool false,Q none 0 0,Q none 0 0,Q none 0 0] 89)=W at*;refine(z4z W).mono ?_;rintro e w1 ⟨x1,y1,rfl,o1,g1,A⟩;have h1:=A.size;replace Rb:=Rb.below A;replace hB:=hB.trans (A.mono hB.size);have m1:=o1.lt;clear A
 go_wp2_with fail
 refine(z4z w1).mono ?_;rintro e w2 ⟨x2,y2,rfl,o2,g2,c⟩;have h2:=c.size;replace Rb:=Rb.below c;replace o1:=o1.below c;replace hB:=hB.trans (c.mono hB.size);have m2:=o2.lt;clear c;have z:Below w2.heap.size w2 (w2.alloc (.cells #[Q x1 3 y1,Q x2 3 y2] 171)):=by go_grown
 have ho:=(z0y (World.ownsRow_lit (e:=171) (size:=2) w2 #[Q x1 3 y1,Q x2 3 y2] 1 (P _) (by decide) rfl)).1;replace Rb:=Rb.below z;replace o1:=o1.below z;replace o2:=o2.below z;replace hB:=hB.trans (z.mono hB.size);have hA:w2.heap.size<(w2.alloc (.cells #[Q x1 3 y1,Q x2 3 y2] 171)).heap.size:=by simp
 have oR:roundK.Own (w2.alloc (.cells #[Q x1 3 y1,Q x2 3 y2] 171)) (Q (some ⟨w2.heap.size,0,none⟩) 1 1) [(⟨Q x1 3 y1,[3,3,3],Q x2 3 y2,[3,3,3]⟩:RoundQ)]:=⟨ho,fun p hp=>by simp only[l]at hp;subst hp;exact⟨o1,o2⟩⟩
 have HD:Hid (∀x∈intK.fp (Q x1 3 y1) [3,3,3],∀y∈intK.fp (Q x2 3 y2) [3,3,3],x≠y):=fun x hx y hy e=>by have:=m1 x hx;have:=g2 y hy;omega
 clear z ho
 go_wp2_with fail
 generalize w2.alloc (.cells #[Q x1 3 y1,Q x2 3 y2] 171)=W2 at*;generalize V:w2.heap.size=g at*;refine(z4z W2).mono ?_;rintro e w3 ⟨x3,y3,rfl,o3,g3,d⟩;have h3:=d.size;replace Rb:=Rb.below d;replace oR:=oR.below d;replace hB:=hB.trans (d.mono hB.size);have fR:∀k∈roundK.fp (Q (some ⟨g,0,none⟩) 1 1) [(⟨Q x1 3 y1,[3,3,3],Q x2 3 y2,[3,3,3]⟩:RoundQ)],W.heap.size≤k∧k<W2.heap.size:=fun k hk=>by
  simp only[Kind.fp,List.mem_append,List.flatMap_cons,List.flatMap_nil,List.append_nil,blk,Value.ownBlock,Option.toList,l]at hk;rcases hk with hk|hk
  ·omega
  ·rcases List.mem_append.1 hk with hk|hk
   ·have:=g1 k hk;have:=m1 k hk;omega
   ·have:=g2 k hk;have:=m2 k hk;omega
 have nR:(roundK.fp (Q (some ⟨g,0,none⟩) 1 1) [(⟨Q x1 3 y1,[3,3,3],Q x2 3 y2,[3,3,3]⟩:RoundQ)]).Nodup:=by
  unfold Kind.fp;refine List.nodup_append.2 ⟨z0t _,?_,fun a ha b hb e=>?_⟩
  ·simp only[List.flatMap_cons,List.flatMap_nil,List.append_nil];exact List.nodup_append.2 ⟨z0L _ _,z0L _ _,HD.out⟩
  ·simp only[blk,Value.ownBlock,Option.toList,l]at ha;subst ha e;simp only[List.flatMap_cons,List.flatMap_nil,List.append_nil]at hb;rcases List.mem_append.1 hb with hb|hb
   ·have:=m1 _ hb;omega
   ·have:=m2 _ hb;omega
 have U:=z0x w3 w.heap.size #[.bool false,Q none 0 0,Q (some ⟨g,0,none⟩) 1 1,Q x3 3 y3];have D:=oR.out U (fun k hk=>by have:=fR k hk;simp only[l];omega);have C:=o3.out U (fun k hk=>by have:=g3 k hk;simp only[l];omega);have oT:=(Kind.own_nil (K:=txnK) (w3.setRow w.heap.size #[.bool false,Q none 0 0,Q (some ⟨g,0,none⟩) 1 1,Q x3 3 y3])).1;have Rr:=Rb.row #[.bool false,Q none 0 0,Q (some ⟨g,0,none⟩) 1 1,Q x3 3 y3];have E:=z0o hB (g:=w.heap.size) (P _) #[.bool false,Q none 0 0,Q (some ⟨g,0,none⟩) 1 1,Q x3 3 y3];have O:(H.info? 89).map (·.size)=some (#[.bool false,Q none 0 0,Q (some ⟨g,0,none⟩) 1 1,Q x3 3 y3]:Array Value).size:=z5C;have HQ:Hid (∃q:InstQ,#[.bool q.has,q.vb,q.vr,q.vd]=(#[.bool false,Q none 0 0,Q (some ⟨g,0,none⟩) 1 1,Q x3 3 y3]:Array Value)∧q.e=q2R∧instK.own (w3.setRow w.heap.size #[.bool false,Q none 0 0,Q (some ⟨g,0,none⟩) 1 1,Q x3 3 y3]) q∧(instK.foot q).Nodup∧(∀k∈instK.foot q,w.heap.size≤k)):=by
  refine⟨⟨false,Q none 0 0,[],Q (some ⟨g,0,none⟩) 1 1,[(⟨Q x1 3 y1,[3,3,3],Q x2 3 y2,[3,3,3]⟩:RoundQ)],Q x3 3 y3,[3,3,3]⟩,rfl,rfl,⟨oT,D,C⟩,?_,?_⟩
  ·show(txnK.fp (Q none 0 0) ([]:List TxnQ)++(roundK.fp (Q (some ⟨g,0,none⟩) 1 1) [(⟨Q x1 3 y1,[3,3,3],Q x2 3 y2,[3,3,3]⟩:RoundQ)]++intK.fp (Q x3 3 y3) [3,3,3])).Nodup;rw[(Kind.own_nil (K:=txnK) w3).2,List.nil_append];exact List.nodup_append.2 ⟨nR,z0L _ _,fun a ha b hb e=>by have:=fR a ha;have:=g3 b hb;omega⟩
  ·intro k hk;replace hk:k∈txnK.fp (Q none 0 0) ([]:List TxnQ)++(roundK.fp (Q (some ⟨g,0,none⟩) 1 1) [(⟨Q x1 3 y1,[3,3,3],Q x2 3 y2,[3,3,3]⟩:RoundQ)]++intK.fp (Q x3 3 y3) [3,3,3]):=hk;rw[(Kind.own_nil (K:=txnK) w3).2,List.nil_append]at hk;rcases List.mem_append.1 hk with hk|hk
   ·have:=fR k hk;omega
   ·have:=g3 k hk;omega
 clear D C oT U fR nR oR o3 o1 o2 g1 g2 g3 m1 m2 HD hB d
 go_wp2_with (first|(refine z0A (by kernel_rfl) 89 _ _ rfl _ #[.bool false,Q none 0 0,Q (some ⟨g,0,none⟩) 1 1,Q x3 3 y3] rfl rfl 89 _ Rb O rfl (by simp[Value.oneCell']) ?_))
 obtain⟨q0,q1,q2,q3⟩:=Rr.cel4;obtain⟨q,I,J,L,M,N⟩:=HQ.out;exact bodyPost_ret (v:=.agg #[.bool false,Q none 0 0,Q (some ⟨g,0,none⟩) 1 1,Q x3 3 y3]) (by simp[results,results94,go_sem,q0,q1,q2,q3]) rfl ⟨q,by rw[I],J,L,M,N,E⟩
theorem z6S(v:Value)(ps:List InstQ)(w:World)(h:instK.At w v ps)(af:(∀p∈ps,(∀t∈p.batch,0<t.acts.length)∧(∀r∈p.rounds,0<r.rep.length∧0<r.pro.length)∧0<p.dec.length))(hl:(ps.length+nmL InstQ.n ps)≤1048576):
  Calls H 93 #[v] w fun e w'=>∃v' qs,e=.returned v'∧qs.map B=ps.map B∧instK.Own w' v' qs∧(instK.fp v' qs).Nodup∧(∀k∈instK.fp v' qs,w.heap.size≤k)∧Below w.heap.size w w':=by
 obtain⟨a,cap,rfl⟩:=h.shape;obtain⟨i0,hi,av,aw,ax⟩:=info_parts z1H;have ho:=World.ownsRow_lit (e:=89) (size:=4) w #[] 0 (P _) (by decide) rfl;have ag:instK.Own (w.alloc (.cells #[] 89)) (Q (some ⟨w.heap.size,0,none⟩) 0 0) ([]:List InstQ):=⟨(z0y ho).1,fun p hp=>by simp at hp⟩
 have ae:Below w.heap.size w (w.alloc (.cells #[] 89)):=by go_grown
 have Y:Hid ((instK.fp (Q (some ⟨w.heap.size,0,none⟩) 0 0) ([]:List InstQ)).Nodup∧∀k∈instK.fp (Q (some ⟨w.heap.size,0,none⟩) 0 0) ([]:List InstQ),w.heap.size≤k):=by
  refine⟨?_,?_⟩
  ·simp[Kind.fp,blk,Value.ownBlock]
  ·simp[Kind.fp,blk,Value.ownBlock]
 clear ho;go_enter func93,ntmps93
 go_wp2
 go_loopw[3,4] (fun v j wr=>∃ (k:Nat) (qs:List InstQ),k≤ps.length∧j=G S k∧Hid (qs.map B=(ps.take k).map B)∧instK.Own wr v qs∧Hid ((instK.fp v qs).Nodup∧∀k∈instK.fp v qs,w.heap.size≤k)∧Below w.heap.size w wr) (fun _ j _=>ps.length-(intOf j).toNat)
 case atStart=>exact⟨0,[],Nat.zero_le _,rfl,(rfl:_=_),ag,Y,ae⟩
 case round=>
  clear Y ag ae;obtain⟨k,qs,hk,rfl,HE,hO,HN,hb⟩:=hrel;obtain⟨sa,sc,rfl⟩:=hO.shape;have aa:Hid (qs.length=k):=by
   have:=congrArg List.length HE.out;rw[s,s,List.length_take]at this;show qs.length=k;omega
  by_cases J:k<ps.length
  ·obtain⟨b,az,rfl,aE,hc,C⟩:=(h.below hb).cell (by decide) k J;have z:∀j x,(instK.cells ps[k])[j]?=some x→wr.cell? ⟨b,az+k*4+j,none⟩=some x:=hc;have c0:=z 0 (.bool ps[k].has) rfl;have c1:=z 1 ps[k].vb rfl;have c2:=z 2 ps[k].vr rfl;have c3:=z 3 ps[k].vd rfl;rw[Nat.add_zero]at c0;have ay:=z01 InstQ.n ps k J;have d:=af _ (List.getElem_mem J);have Z:Hid (∀p':InstQ,p'.e=B ps[k]→(qs++[p']).map B=(ps.take (k+1)).map B):=fun p' aq=>by
    rw[List.take_succ_eq_append_getElem J,List.map_append,List.map_append,HE.out,List.map_singleton,List.map_singleton,aq]
   clear hc z;have M:=q1b ps[k];have W:=fun w h=>M w h (by omega) d.1 d.2.1 d.2.2
   clear M HE;generalize ps[k]=p at*;obtain⟨has,vb,T,vr,L,vd,dec⟩:=p;obtain⟨ba,bk,rfl⟩:∃a c,vb=Q a T.length c:=C.1.shape;obtain⟨va,vk,rfl⟩:∃a c,vr=Q a L.length c:=C.2.1.shape;obtain⟨da,dk,rfl⟩:∃a c,vd=Q a dec.length c:=C.2.2.shape;dsimp only at c0 c1 c2 c3 W
   go_wp2_with fail
   clear c0 c1 c2 c3;have X:Hid (∀x∈instK.fp (Q sa qs.length sc) qs,x<wr.heap.size):=hO.lt;have ab:Hid (w.heap.size≤wr.heap.size):=hb.size;refine(W wr C).mono ?_;rintro e w2 ⟨q,rfl,eq,oq,nq,gq,E⟩;replace hO:=hO.below E;replace hb:=hb.trans (E.mono hb.size);have aD:=E.size;clear W E;obtain⟨qh,aA,qb,aC,qr,aB,qd⟩:=q;obtain⟨x1,y1,rfl⟩:∃a c,aA=Q a qb.length c:=oq.1.shape;obtain⟨x2,y2,rfl⟩:∃a c,aC=Q a qr.length c:=oq.2.1.shape;obtain⟨x3,y3,rfl⟩:∃a c,aB=Q a qd.length c:=oq.2.2.shape;have y:Below w2.heap.size w2 (w2.alloc (.cells #[.bool qh,Q x1 qb.length y1,Q x2 qr.length y2,Q x3 qd.length y3] 89)):=by go_grown
   have U:=hO.below y;have ad:=instK.own_out (F:=[]) oq (Out.of_below y) (fun _ _=>by simp);have I:=hb.trans (y.mono hb.size);have an:wr.heap.size≤(w2.alloc (.cells #[.bool qh,Q x1 qb.length y1,Q x2 qr.length y2,Q x3 qd.length y3] 89)).heap.size:=by have:=y.size;omega
   clear hO oq;have D:=U.1
   go_wp2_with (at_builtin;refine wpList_append_own_at _ rfl _ _ 28 rfl 0 89 i0 (.agg #[.bool false,Q none 0 0,Q none 0 0,Q none 0 0]) 4 80 Tryz.underlying28 hi av aw ax rfl (by decide) _ qs.length (instK.row qs) rfl D ⟨w2.heap.size,0,none⟩ 1 1 [.bool qh,Q x1 qb.length y1,Q x2 qr.length y2,Q x3 qd.length y3] rfl rfl ?c1 ?c2 ?c3 ?c4 ?c5 ?_)
   all_goals try(case c1=>intro j u hj;match j,hj with|0,hj=>simp at hj;subst hj;simp[Addr.add]|1,hj=>simp at hj;subst hj;simp[Addr.add]|2,hj=>simp at hj;subst hj;simp[Addr.add]|3,hj=>simp at hj;subst hj;simp[Addr.add])
   all_goals try(case c2=>intro u hu;simp at hu;rcases hu with rfl|rfl|rfl|rfl<;>rfl)
   all_goals try(case c3=>have:=aa.out;unfold maxLen;omega)
   all_goals try(case c4=>have:=aa.out;omega)
   all_goals try(case c5=>first|omega|simp)
   intro v' w5 O A ai V;clear ai D;rw[show w2.heap.size+1=(w2.alloc (.cells #[.bool qh,Q x1 qb.length y1,Q x2 qr.length y2,Q x3 qd.length y3] 89)).heap.size from(World.size_alloc _ _).symm]at V;generalize ar:w2.alloc (.cells #[.bool qh,Q x1 qb.length y1,Q x2 qr.length y2,Q x3 qd.length y3] 89)=WA at*;clear ar;obtain⟨am,ah,N,aj⟩:=U.snoc (p:=(⟨qh,Q x1 qb.length y1,qb,Q x2 qr.length y2,qr,Q x3 qd.length y3,qd⟩:InstQ)) HN.out.1 HN.out.2 ad nq (fun x hx au=>by have:=X.out x au;have:=gq x hx;omega) (fun x hx=>by have:=gq x hx;have:=ab.out;omega) I.size O A V;have ao:Below w.heap.size w w5:=Out.keep I aj I.size (fun x hx=>HN.out.2 x (by simp only[Kind.fp,List.mem_append];exact Or.inl hx));have ak:Hid ((qs++[(⟨qh,Q x1 qb.length y1,qb,Q x2 qr.length y2,qr,Q x3 qd.length y3,qd⟩:InstQ)]).map B=(ps.take (k+1)).map B):=Z.out _ eq;have al:Hid ((instK.fp v' (qs++[(⟨qh,Q x1 qb.length y1,qb,Q x2 qr.length y2,qr,Q x3 qd.length y3,qd⟩:InstQ)])).Nodup∧∀k∈instK.fp v' (qs++[(⟨qh,Q x1 qb.length y1,qb,Q x2 qr.length y2,qr,Q x3 qd.length y3,qd⟩:InstQ)]),w.heap.size≤k):=⟨ah,N⟩
   clear Z HN X ab ad U I O A V aj ah N C hb y ay d an gq nq eq
   go_wp2
   go_roundw
   case rel=>exact⟨k+1,_,by omega,by go_num,ak,am,al,ao⟩
   case measure=>simp[intOf];omega
  ·have ap:k=ps.length:=by omega
   subst ap;have hE:=HE.out;rw[List.take_length]at hE;clear HE
   go_wp2
   go_ret;exact⟨_,qs,rfl,hE,hO,HN.out.1,HN.out.2,hb⟩
def niC(ds:List InstE):Int:=if ordF ds=0 then(if decN ds<ds.length then 8 else if ds.length=4 then 7 else 0)else ordF ds
def niO(ds:List InstE):List InstE:=if niC ds=0 then ds++[q2R]else []
theorem z9P(ds:List InstE):(ordF ds≠0∧niC ds=ordF ds∧niO ds=[])∨(ordF ds=0∧decN ds<ds.length∧niC ds=8∧niO ds=[])∨(ordF ds=0∧¬decN ds<ds.length∧ds.length=4∧niC ds=7∧niO ds=[])∨(ordF ds=0∧¬decN ds<ds.length∧ds.length≠4∧niC ds=0∧niO ds=ds++[q2R]):=by
 unfold niO niC;by_cases h0:ordF ds=0
 ·by_cases h1:decN ds<ds.length
  ·right;left;simp[h0,h1]
  ·by_cases h4:ds.length=4
   ·right;right;left;refine⟨h0,h1,h4,?_,?_⟩
    ·rw[if_pos h0,if_neg h1,if_pos h4]
    ·rw[if_pos h0,if_neg h1,if_pos h4,if_neg (by decide)]
   ·right;right;right;refine⟨h0,h1,h4,?_,?_⟩
    ·rw[if_pos h0,if_neg h1,if_neg h4]
    ·rw[if_pos h0,if_neg h1,if_neg h4,if_pos rfl]
 ·left;simp[h0]
theorem q5s(c0 c1:Int)(c2 c3:Bool)(c4:Int)(c5:Bool)(a1 a2 a3:Option Addr)(l1 k1 l2 k2 l3 k3:Nat)(w:World):(Instr.field 111 (.agg #[G S c0,G S c1,.bool c2,.bool c3,G S c4,.bool c5,Q a1 l1 k1,Q a2 l2 k2,Q a3 l3 k3]) 2).run H w=.ok (.agg #[.bool c5,Q a1 l1 k1,Q a2 l2 k2,Q a3 l3 k3]) w:=by kernel_rfl
theorem z3i(v:Value)(ps:List InstQ)(w:World)(hG:RulO w)(h:instK.At w v ps)(hl:(ps.length+nmL InstQ.n ps)≤1048576):
  Calls H 32 #[v] w fun e w'=>∃ (v':Value) (qs:List InstQ),e=.returned (.agg #[G S (niC (ps.map B)),v'])∧qs.map B=niO (ps.map B)∧instK.Own w' v' qs∧(instK.fp v' qs).Nodup∧(∀k∈instK.fp v' qs,w.heap.size≤k)∧Below w.heap.size w w':=by
 have au:=fun w hG h=>z1A v ps w hG h hl
 have HO:Hid (ordF (ps.map B)=0→1≤ps.length∧ps.length≤4∧∀q∈ps,insF (B q)=0):=fun h0=>by
  have:=((z15 _).1 h0).1;rw[s]at this;exact⟨this.1,this.2,fun q hq=>z1L h0 _ (List.mem_map.2 ⟨q,hq,rfl⟩)⟩
 have an:=fun w h A=>z3q v ps w h A hl
 obtain⟨a,cap,rfl⟩:=h.shape;obtain⟨i0,hi,aH,aI,aJ⟩:=info_parts z1H;have hw:=z9P (ps.map B);have z:Hid (ordF (ps.map B)=0→diV (ps.map B)=(decN (ps.map B):Int)):=fun h0=>if_pos h0
 have aC:=z7s (ps.map B);rw[s]at hw aC;generalize niC (ps.map B)=D at*;generalize niO (ps.map B)=O at*;have E:Hid (∀q1:List InstQ,∀q:InstQ,q1.map B=ps.map B→q.e=q2R→(q1++[q]).map B=ps.map B++[q2R]):=fun q1 q h1 h2=>by rw[List.map_append,h1,List.map_singleton,h2]
 have I:Hid (∀q1:List InstQ,q1.map B=ps.map B→q1.length=ps.length):=fun q1 h1=>by simpa using congrArg List.length h1
 generalize ordF (ps.map B)=C at*;generalize diV (ps.map B)=V at*;generalize decN (ps.map B)=M at*;generalize ps.map B=ds at*;have hB:Below w.heap.size w (w.alloc (.cells #[G S 0,Q none 0 0] 67)):=by go_grown
 have Rb:=Blk.new w 67 #[G S 0,Q none 0 0];go_enter func32,ntmps32
 go_wp2_with fail
 generalize w.alloc (.cells #[G S 0,Q none 0 0] 67)=W at*;refine(au W (hG.below hB).r (h.below hB)).mono ?_;rintro e w1 ⟨rfl,hb⟩;have d:Below w1.heap.size w1 (w1.alloc (.cells #[G S C,G S V] 42)):=by go_grown
 replace hB:=hB.trans (hb.mono hB.size);replace hB:=hB.trans (d.mono hB.size);replace Rb:=(Rb.below hb).below d;have Dk:=Blk.new w1 42 #[G S C,G S V];clear hb au d;rcases hw with⟨hC,e1,e2⟩|⟨hC,hM,e1,e2⟩|⟨hC,hM,h4,e1,e2⟩|⟨hC,hM,h4,e1,e2⟩
 ·have aO:(C !=0)=true:=by simpa using hC
  have E1:Hid (D=C∧O=[]):=⟨e1,e2⟩
  clear e1 e2 E I HO z hC;obtain⟨q0,q1⟩:=Rb.cel2;obtain⟨f0,f1⟩:=Rb.frz2;obtain⟨T,y⟩:=Kind.own_nil (K:=instK) w;clear T
  go_wp2
  exact bodyPost_ret (v:=.agg #[G S C,Q none 0 0]) (by simp[results,results32,go_sem,q0,q1]) rfl ⟨Q none 0 0,[],by rw[E1.out.1],by rw[E1.out.2];rfl,(Kind.own_nil _).1,by rw[y];simp,by rw[y];simp,(hB.setCell (p:=⟨w.heap.size,0,none⟩) (P _) _).setCell (p:=⟨w.heap.size,1,none⟩) (P _) _⟩
 ·have E1:Hid (D=8∧O=[]):=⟨e1,e2⟩
  have hV:=z.out hC;subst hC hV;have al:(M:Int)<(ps.length:Int):=by omega
  clear e1 e2 E I HO z hM;obtain⟨q0,q1⟩:=Rb.cel2;obtain⟨f0,f1⟩:=Rb.frz2;obtain⟨T,y⟩:=Kind.own_nil (K:=instK) w;clear T
  go_wp2
  exact bodyPost_ret (v:=.agg #[G S 8,Q none 0 0]) (by simp[results,results32,go_sem,q0,q1]) rfl ⟨Q none 0 0,[],by rw[E1.out.1],by rw[E1.out.2];rfl,(Kind.own_nil _).1,by rw[y];simp,by rw[y];simp,(hB.setCell (p:=⟨w.heap.size,0,none⟩) (P _) _).setCell (p:=⟨w.heap.size,1,none⟩) (P _) _⟩
 ·have E1:Hid (D=7∧O=[]):=⟨e1,e2⟩
  have hV:=z.out hC;subst hC hV;have al:¬(M:Int)<(ps.length:Int):=by omega
  have aA:((ps.length:Int)==4)=true:=by rw[h4];rfl
  clear e1 e2 E I HO z hM h4;obtain⟨q0,q1⟩:=Rb.cel2;obtain⟨f0,f1⟩:=Rb.frz2;obtain⟨T,y⟩:=Kind.own_nil (K:=instK) w;clear T
  go_wp2
  exact bodyPost_ret (v:=.agg #[G S 7,Q none 0 0]) (by simp[results,results32,go_sem,q0,q1]) rfl ⟨Q none 0 0,[],by rw[E1.out.1],by rw[E1.out.2];rfl,(Kind.own_nil _).1,by rw[y];simp,by rw[y];simp,(hB.setCell (p:=⟨w.heap.size,0,none⟩) (P _) _).setCell (p:=⟨w.heap.size,1,none⟩) (P _) _⟩
 ·have aw:Hid (D=0):=e1;obtain⟨p1,p4,ao⟩:=HO.out hC;have hV:=z.out hC;have A:=fun q hq=>z5I (ao q hq)
  subst hC hV;have al:¬(M:Int)<(ps.length:Int):=by omega
  have aA:((ps.length:Int)==4)=false:=by simpa using(show¬(ps.length:Int)=4 by omega)
  clear e1 HO z hM h4 ao;have aT:=Dk.lt
  go_wp2_with fail
  have aQ:w.heap.size+1≤(w1.alloc (.cells #[G S 0,G S M] 42)).heap.size:=by have:=Rb.lt;omega
  generalize w1.alloc (.cells #[G S 0,G S M] 42)=WB at*;refine(an WB (h.below hB) A).mono ?_;rintro e Y ⟨vq,qs,rfl,ae,hO,ap,ab,J⟩;obtain⟨sa,sc,rfl⟩:=hO.shape;have aD:=I.out qs ae;have ak:Hid (qs.length≤4):=show _≤_ by omega
  have ax:Hid (∀x∈instK.fp (Q sa qs.length sc) qs,x<Y.heap.size):=hO.lt;have az:Hid (WB.heap.size≤Y.heap.size):=J.size;have HN:Hid ((instK.fp (Q sa qs.length sc) qs).Nodup∧∀k∈instK.fp (Q sa qs.length sc) qs,WB.heap.size≤k):=⟨ap,ab⟩
  clear ap ab an A aD
  go_wp2_with fail
  refine(z3D Y ((hG.below hB).o.below J)).mono ?_;rintro e w2 ⟨q,rfl,eq,oq,nq,gq,X⟩;have ay:Hid (_=O):=(E.out qs q ae eq).trans e2.symm;replace hO:=hO.below X;have hb:=J.trans (X.mono J.size);have aN:=X.size;have Rw:=Rb;clear X J Rb Dk E I ae eq e2;obtain⟨qh,aK,qb,aM,qr,aL,qd⟩:=q;obtain⟨x1,y1,rfl⟩:∃a c,aK=Q a qb.length c:=oq.1.shape;obtain⟨x2,y2,rfl⟩:∃a c,aM=Q a qr.length c:=oq.2.1.shape;obtain⟨x3,y3,rfl⟩:∃a c,aL=Q a qd.length c:=oq.2.2.shape;have aS:=q5s 0 0 false false 0 qh x1 x2 x3 qb.length y1 qr.length y2 qd.length y3;simp only[q6V];have d:Below w2.heap.size w2 (w2.alloc (.cells #[.bool qh,Q x1 qb.length y1,Q x2 qr.length y2,Q x3 qd.length y3] 89)):=by go_grown
  have ag:=hO.below d;have am:=instK.own_out (F:=[]) oq (Out.of_below d) (fun _ _=>by simp);have Z:=hb.trans (d.mono hb.size);have aR:Y.heap.size≤(w2.alloc (.cells #[.bool qh,Q x1 qb.length y1,Q x2 qr.length y2,Q x3 qd.length y3] 89)).heap.size:=by have:=d.size;omega
  clear hO oq;have U:=ag.1
  go_wp2_with (at_builtin;refine wpList_append_own_at _ rfl _ _ 28 rfl 0 89 i0 (.agg #[.bool false,Q none 0 0,Q none 0 0,Q none 0 0]) 4 80 Tryz.underlying28 hi aH aI aJ rfl (by decide) _ qs.length (instK.row qs) rfl U ⟨w2.heap.size,0,none⟩ 1 1 [.bool qh,Q x1 qb.length y1,Q x2 qr.length y2,Q x3 qd.length y3] rfl rfl ?c1 ?c2 ?c3 ?c4 ?c5 ?_)
  all_goals try(case c1=>intro j u hj;match j,hj with|0,hj=>simp at hj;subst hj;simp[Addr.add]|1,hj=>simp at hj;subst hj;simp[Addr.add]|2,hj=>simp at hj;subst hj;simp[Addr.add]|3,hj=>simp at hj;subst hj;simp[Addr.add])
  all_goals try(case c2=>intro u hu;simp at hu;rcases hu with rfl|rfl|rfl|rfl<;>rfl)
  all_goals try(case c3=>have:=ak.out;unfold maxLen;omega)
  all_goals try(case c4=>have:=ak.out;omega)
  all_goals try(case c5=>first|omega|simp)
  intro v' w5 ad L ar ah;clear ar U;rw[show w2.heap.size+1=(w2.alloc (.cells #[.bool qh,Q x1 qb.length y1,Q x2 qr.length y2,Q x3 qd.length y3] 89)).heap.size from(World.size_alloc _ _).symm]at ah;generalize aF:w2.alloc (.cells #[.bool qh,Q x1 qb.length y1,Q x2 qr.length y2,Q x3 qd.length y3] 89)=WA at*;clear aF;obtain⟨af,aq,N,av⟩:=ag.snoc (p:=(⟨qh,Q x1 qb.length y1,qb,Q x2 qr.length y2,qr,Q x3 qd.length y3,qd⟩:InstQ)) HN.out.1 HN.out.2 am nq (fun x hx aG=>by have:=ax.out x aG;have:=gq x hx;omega) (fun x hx=>by have:=gq x hx;have:=az.out;omega) Z.size ad L ah;have ai:Below WB.heap.size WB w5:=Out.keep Z av Z.size (fun x hx=>HN.out.2 x (by simp only[Kind.fp,List.mem_append];exact Or.inl hx));obtain⟨xa,xc,aE⟩:=af.shape;subst aE;have R5:=Rw.below ai;obtain⟨q0,q1⟩:=R5.cel2;obtain⟨f0,f1⟩:=R5.frz2;generalize aP:qs++[(⟨qh,Q x1 qb.length y1,qb,Q x2 qr.length y2,qr,Q x3 qd.length y3,qd⟩:InstQ)]=Q5 at*;have aa:Hid (∀u u',instK.Own ((w5.setCell ⟨w.heap.size,0,none⟩ u).setCell ⟨w.heap.size,1,none⟩ u') (Q xa Q5.length xc) Q5∧Below w.heap.size w ((w5.setCell ⟨w.heap.size,0,none⟩ u).setCell ⟨w.heap.size,1,none⟩ u')):=fun u u'=>by
   refine⟨af.out (((Out.refl [w.heap.size] w5).set (b:=w.heap.size) (j:=0) (u:=u) (by simp)).set (b:=w.heap.size) (j:=1) (u:=u') (by simp)) (fun k hk=>by have:=N k hk;simp only[l];omega),?_⟩;have aB:=hB.trans (ai.mono hB.size);exact(aB.setCell (p:=⟨w.heap.size,0,none⟩) (P _) _).setCell (p:=⟨w.heap.size,1,none⟩) (P _) _
  have aj:Hid ((instK.fp (Q xa Q5.length xc) Q5).Nodup∧∀k∈instK.fp (Q xa Q5.length xc) Q5,w.heap.size≤k):=⟨aq,fun k hk=>by have:=N k hk;omega⟩
  clear af aq N ai hB Rw R5 av ad L ah ag am Z d
  go_wp2
  exact bodyPost_ret (v:=.agg #[G S 0,Q xa Q5.length xc]) (by simp[results,results32,go_sem,q0,q1]) rfl ⟨Q xa Q5.length xc,Q5,by rw[aw.out],ay.out,(aa.out _ _).1,aj.out.1,aj.out.2,(aa.out _ _).2⟩
theorem q1q(v:Value)(ps:List InstQ)(w:World)(h:instK.At w v ps)(hl:(ps.length+nmL InstQ.n ps)≤1048576)(h0:ordF (ps.map B)=0):
  Calls H 53 #[v] w fun e w'=>∃ (v':Value) (qs:List InstQ),e=.returned (.tuple #[v',G S (niC (ps.map B))])∧qs.map B=niO (ps.map B)∧instK.Own w' v' qs∧(instK.fp v' qs).Nodup∧(∀k∈instK.fp v' qs,w.heap.size≤k)∧Below w.heap.size w w':=by
 have HO:Hid (ordF (ps.map B)=0→1≤ps.length∧ps.length≤4∧∀q∈ps,insF (B q)=0):=fun h0=>by
  have:=((z15 _).1 h0).1;rw[s]at this;exact⟨this.1,this.2,fun q hq=>z1L h0 _ (List.mem_map.2 ⟨q,hq,rfl⟩)⟩
 obtain⟨p1,p4,ak⟩:=HO.out h0;have y:=fun q hq=>z5I (ak q hq)
 have ao:=z3Y v ps w h hl p1 p4;have aj:=fun w h y=>z6S v ps w h y hl
 obtain⟨a,cap,rfl⟩:=h.shape;obtain⟨i0,hi,aC,aD,aE⟩:=info_parts z1H;have hw:=z9P (ps.map B);have ax:=z7s (ps.map B);rw[s]at hw ax;generalize niC (ps.map B)=D at*;generalize niO (ps.map B)=O at*;have J:Hid (∀q1:List InstQ,∀q:InstQ,q1.map B=ps.map B→q.e=q2R→(q1++[q]).map B=ps.map B++[q2R]):=fun q1 q h1 h2=>by rw[List.map_append,h1,List.map_singleton,h2]
 have L:Hid (∀q1:List InstQ,q1.map B=ps.map B→q1.length=ps.length):=fun q1 h1=>by simpa using congrArg List.length h1
 clear HO ak;generalize ordF (ps.map B)=C at*;generalize decN (ps.map B)=M at*;generalize ps.map B=ds at*;go_enter func53,ntmps53
 go_wp2_with fail
 refine ao.mono ?_;rintro e WB ⟨rfl,hB⟩;clear ao;rcases hw with⟨hC,e1,e2⟩|⟨hC,hM,e1,e2⟩|⟨hC,hM,h4,e1,e2⟩|⟨hC,hM,h4,e1,e2⟩
 ·exact absurd h0 hC
 ·have E1:Hid (D=8∧O=[]):=⟨e1,e2⟩
  have ag:(M:Int)<(ps.length:Int):=by omega
  clear e1 e2 J L hM h0 hC;obtain⟨ae,E⟩:=Kind.own_nil (K:=instK) w;clear ae
  go_wp2
  exact bodyPost_ret (v:=.tuple #[Q none 0 0,G S 8]) (by simp[results,results53,go_sem]) rfl ⟨Q none 0 0,[],by rw[E1.out.1],by rw[E1.out.2];rfl,(Kind.own_nil _).1,by rw[E];simp,by rw[E];simp,hB⟩
 ·have E1:Hid (D=7∧O=[]):=⟨e1,e2⟩
  have ag:¬(M:Int)<(ps.length:Int):=by omega
  have aw:4≤ps.length:=by omega
  clear e1 e2 J L hM h4 h0 hC;obtain⟨ae,E⟩:=Kind.own_nil (K:=instK) w;clear ae
  go_wp2
  exact bodyPost_ret (v:=.tuple #[Q none 0 0,G S 7]) (by simp[results,results53,go_sem]) rfl ⟨Q none 0 0,[],by rw[E1.out.1],by rw[E1.out.2];rfl,(Kind.own_nil _).1,by rw[E];simp,by rw[E];simp,hB⟩
 ·have aq:Hid (D=0):=e1;have ag:¬(M:Int)<(ps.length:Int):=by omega
  have aw:¬4≤ps.length:=by omega
  clear e1 hM h4 h0 hC
  go_wp2_with fail
  refine(aj WB (h.below hB) y).mono ?_;rintro e Y ⟨vq,qs,rfl,Z,hO,al,V,U⟩;obtain⟨sa,sc,rfl⟩:=hO.shape;have ay:=L.out qs Z;have af:Hid (qs.length≤4):=show _≤_ by omega
  have ar:Hid (∀x∈instK.fp (Q sa qs.length sc) qs,x<Y.heap.size):=hO.lt;have av:Hid (WB.heap.size≤Y.heap.size):=U.size;have HN:Hid ((instK.fp (Q sa qs.length sc) qs).Nodup∧∀k∈instK.fp (Q sa qs.length sc) qs,WB.heap.size≤k):=⟨al,V⟩
  clear al V aj y ay
  go_wp2_with fail
  refine(q2S Y).mono ?_;rintro e w2 ⟨q,rfl,eq,oq,nq,gq,N⟩;have au:Hid (_=O):=(J.out qs q Z eq).trans e2.symm;replace hO:=hO.below N;have hb:=U.trans (N.mono U.size);have aI:=N.size;clear N U J L Z eq e2;obtain⟨qh,aF,qb,aH,qr,aG,qd⟩:=q;obtain⟨x1,y1,rfl⟩:∃a c,aF=Q a qb.length c:=oq.1.shape;obtain⟨x2,y2,rfl⟩:∃a c,aH=Q a qr.length c:=oq.2.1.shape;obtain⟨x3,y3,rfl⟩:∃a c,aG=Q a qd.length c:=oq.2.2.shape;have z:Below w2.heap.size w2 (w2.alloc (.cells #[.bool qh,Q x1 qb.length y1,Q x2 qr.length y2,Q x3 qd.length y3] 89)):=by go_grown
  have ab:=hO.below z;have ah:=instK.own_out (F:=[]) oq (Out.of_below z) (fun _ _=>by simp);have T:=hb.trans (z.mono hb.size);have aK:Y.heap.size≤(w2.alloc (.cells #[.bool qh,Q x1 qb.length y1,Q x2 qr.length y2,Q x3 qd.length y3] 89)).heap.size:=by have:=z.size;omega
  clear hO oq;have I:=ab.1
  go_wp2_with (at_builtin;refine wpList_append_own_at _ rfl _ _ 28 rfl 0 89 i0 (.agg #[.bool false,Q none 0 0,Q none 0 0,Q none 0 0]) 4 80 Tryz.underlying28 hi aC aD aE rfl (by decide) _ qs.length (instK.row qs) rfl I ⟨w2.heap.size,0,none⟩ 1 1 [.bool qh,Q x1 qb.length y1,Q x2 qr.length y2,Q x3 qd.length y3] rfl rfl ?c1 ?c2 ?c3 ?c4 ?c5 ?_)
  all_goals try(case c1=>intro j u hj;match j,hj with|0,hj=>simp at hj;subst hj;simp[Addr.add]|1,hj=>simp at hj;subst hj;simp[Addr.add]|2,hj=>simp at hj;subst hj;simp[Addr.add]|3,hj=>simp at hj;subst hj;simp[Addr.add])
  all_goals try(case c2=>intro u hu;simp at hu;rcases hu with rfl|rfl|rfl|rfl<;>rfl)
  all_goals try(case c3=>have:=af.out;unfold maxLen;omega)
  all_goals try(case c4=>have:=af.out;omega)
  all_goals try(case c5=>first|omega|simp)
  intro v' w5 X A an ad;clear an I;rw[show w2.heap.size+1=(w2.alloc (.cells #[.bool qh,Q x1 qb.length y1,Q x2 qr.length y2,Q x3 qd.length y3] 89)).heap.size from(World.size_alloc _ _).symm]at ad;generalize aA:w2.alloc (.cells #[.bool qh,Q x1 qb.length y1,Q x2 qr.length y2,Q x3 qd.length y3] 89)=WA at*;clear aA;obtain⟨aa,am,W,ap⟩:=ab.snoc (p:=(⟨qh,Q x1 qb.length y1,qb,Q x2 qr.length y2,qr,Q x3 qd.length y3,qd⟩:InstQ)) HN.out.1 HN.out.2 ah nq (fun x hx aB=>by have:=ar.out x aB;have:=gq x hx;omega) (fun x hx=>by have:=gq x hx;have:=av.out;omega) T.size X A ad;have ai:Below WB.heap.size WB w5:=Out.keep T ap T.size (fun x hx=>HN.out.2 x (by simp only[Kind.fp,List.mem_append];exact Or.inl hx));obtain⟨xa,xc,az⟩:=aa.shape;subst az;generalize aJ:qs++[(⟨qh,Q x1 qb.length y1,qb,Q x2 qr.length y2,qr,Q x3 qd.length y3,qd⟩:InstQ)]=Q5 at*;have aL:=hB.size;have d:Hid (instK.Own w5 (Q xa Q5.length xc) Q5∧(instK.fp (Q xa Q5.length xc) Q5).Nodup∧(∀k∈instK.fp (Q xa Q5.length xc) Q5,w.heap.size≤k)∧Below w.heap.size w w5):=⟨aa,am,fun k hk=>by have:=W k hk;omega,hB.trans (ai.mono hB.size)⟩
  clear aa am W ai hB ap X A ad ab ah T z
  go_wp2
  exact bodyPost_ret (v:=.tuple #[Q xa Q5.length xc,G S 0]) (by simp[results,results53,go_sem]) rfl ⟨Q xa Q5.length xc,Q5,by rw[aq.out],au.out,d.out.1,d.out.2.1,d.out.2.2.1,d.out.2.2.2⟩
theorem q5t(q:InstQ):q.n=InstE.n q.e:=by
 unfold InstE.n q0T z9b B;simp only[InstQ.n,s,nmL,List.map_map];rfl
def z3H(c:Int)(p:USQ):USQ:=⟨p.va,z14 (c) p.us⟩
def nmUs(p:USQ):Nat:=p.us.length*3
theorem z8N(c:Int)(p:USQ):ussK.foot (z3H c p)=ussK.foot p:=by
 simp only[z3H,show∀p:USQ,ussK.foot p=undoK.fp p.va p.us from fun _=>rfl,z6G]
theorem q2T(v:Value)(ps:List USQ)(c:Int)(w:World)(h:ussK.Own w v ps)(ah:(ussK.fp v ps).Nodup)(hl:(ps.length+nmL USQ.n ps)≤1048576)(h0:0≤c)(h1:c+(nmL nmUs ps:Int)≤1099511627776):
  Calls H 62 #[v,G S c] w fun e w'=>e=.returned (G S (c+(nmL nmUs ps:Int)))∧ussK.Own w' v (mkL z3H nmUs c ps)∧Out (ussK.fp v ps) w w':=by
 obtain⟨a,cap,rfl⟩:=h.shape;have I:∀k,k≤ps.length→ussK.fp (Q a ps.length cap) (half z3H nmUs c ps k)=ussK.fp (Q a ps.length cap) ps:=fun k hk=>z5r z8N _ c ps k
 have HF:Hid (∀k,k≤ps.length→ussK.fp (Q a ps.length cap) (half z3H nmUs c ps k)=ussK.fp (Q a ps.length cap) ps):=I;have HA:Hid (ussK.Own w (Q a ps.length cap) (half z3H nmUs c ps 0)):=by rw[z2D];exact h
 clear I h;go_enter func62,ntmps62
 go_wp2
 go_loopw[1,5] (fun j i wr=>∃k:Nat,k≤ps.length∧j=G S (c+(nmL nmUs (ps.take k):Int))∧i=G S k∧Hid (ussK.Own wr (Q a ps.length cap) (half z3H nmUs c ps k))∧Hid (Out (ussK.fp (Q a ps.length cap) ps) w wr)) (fun _ i _=>ps.length-(intOf i).toNat)
 case atStart=>exact⟨0,Nat.zero_le _,by simp[nmL],rfl,HA,Out.refl _ _⟩
 case round=>
  clear HA;obtain⟨k,hk,rfl,rfl,HO,HU⟩:=hrel;by_cases C:k<ps.length
  ·have ap:(half z3H nmUs c ps k).length=ps.length:=z1w _ _ _ _ _ hk;have hO:=HO.out;obtain⟨g,rfl⟩:=hO.blkOf (by omega);have J:(ussK.fp (Q (some ⟨g,0,none⟩) ps.length cap) (half z3H nmUs c ps k)).Nodup:=by rw[HF.out k hk];exact ah
   have M:Hid (∀x∈ussK.foot ps[k],x∈ussK.fp (Q (some ⟨g,0,none⟩) ps.length cap) ps):=fun x hx=>by
    simp only[Kind.fp,List.mem_append,List.mem_flatMap];exact Or.inr ⟨_,List.getElem_mem C,hx⟩
   have ad:Hid (∀x∈[g],x∈ussK.fp (Q (some ⟨g,0,none⟩) ps.length cap) ps):=fun x hx=>by
    simp only[l]at hx;subst hx;simp[Kind.fp,blk,Value.ownBlock]
   have W:k<(half z3H nmUs c ps k).length:=by omega
   have A:=z3M z3H nmUs c ps k C;have z:ussK.Own wr (Q (some ⟨g,0,none⟩) ps.length cap) ((half z3H nmUs c ps k).set k ps[k]):=by
    have e:(half z3H nmUs c ps k).set k ps[k]=half z3H nmUs c ps k:=by
     rw[←A,List.set_getElem_self]
    rw[e];exact hO
   have T:(ussK.fp (Q (some ⟨g,0,none⟩) ps.length cap) ((half z3H nmUs c ps k).set k ps[k])).Nodup:=by
    have e:(half z3H nmUs c ps k).set k ps[k]=half z3H nmUs c ps k:=by
     rw[←A,List.set_getElem_self]
    rw[e];exact J
   clear A hO J;have L:=z3N z3H nmUs c ps k C;have ak:=z0S nmUs ps k C;have af:=z2w nmUs ps (k+1);have am:=z01 USQ.n ps k C;have U:Hid ((nmL nmUs (ps.take (k+1)):Int)=(nmL nmUs (ps.take k):Int)+(nmUs ps[k]:Int)):=show _=_ by omega
   have al:(nmL nmUs (ps.take k):Int)+(nmUs ps[k]:Int)≤nmL nmUs ps:=by omega
   have E:Hid ((half z3H nmUs c ps k).set k (z3H (c+(nmL nmUs (ps.take k):Int)) ps[k])=half z3H nmUs c ps (k+1)):=L;clear L ak af HO;generalize half z3H nmUs c ps k=hs at*;generalize aj:ps[k]=p at*;clear aj;obtain⟨D,d⟩:=p;have N:k<hs.length:=W;dsimp only[nmUs,USQ.n]at U al am;generalize hy:(nmL nmUs (ps.take k):Int)=y at*;have aq:0≤y:=by omega
   clear hy;obtain⟨c0,f0⟩:=z.cell' N 0 (D) rfl;rw[show k*ussK.size+0=k from by show k*1+0=k;omega]at c0 f0;have V:=z.elem' N;have O:undoK.Own wr D d:=V;have X:=z9j D d (c+y) _ O (by omega) (by omega) (by omega);obtain⟨an,ao,Z⟩:=O.shape;subst Z;clear V O
   go_wp2_with fail
   refine X.mono ?_;rintro e aa ⟨rfl,ag,Y⟩;clear X;obtain⟨ab,ai⟩:=z.turn' T N (⟨Q an d.length ao,z14 (c+y) d⟩:USQ) Y (fun x hx=>hx) rfl (by exact z6G _ _ _) (ag);have HU:Hid (Out (ussK.fp (Q (some ⟨g,0,none⟩) ps.length cap) ps) w aa):=HU.out.trans (Y.mono (fun x hx=>M.out x (show x∈ussK.foot _ from(fun x hx=>hx) x hx)));have z:=ab;have T:=ai;have R:Hid (ussK.Own aa (Q (some ⟨g,0,none⟩) ps.length cap) (half z3H nmUs c ps (k+1))):=by rw[←E.out];exact z
   clear z T E M ad
   go_wp2
   go_roundw
   case rel=>exact⟨k+1,by omega,by rw[U.out];congr 1;omega,by go_num,R.out,HU.out⟩
   case measure=>simp[intOf];omega
  ·have ae:k=ps.length:=by omega
   subst ae;have hO:=HO.out;rw[z3L]at hO;rw[List.take_length];clear HF HO
   go_wp2
   go_ret;exact⟨rfl,hO,HU.out⟩
theorem q2U(v:Value)(ps:List USQ)(c:Int)(w:World)(h:ussK.At w v (mkL z3H nmUs c ps))(hl:(ps.length+nmL USQ.n ps)≤1048576)(h0:0≤c)(h1:c+(nmL nmUs ps:Int)≤1099511627776):
  Calls H 106 #[v,G S c] w fun e w'=>e=.returned (G S (c+(nmL nmUs ps:Int)))∧Below w.heap.size w w':=by
 obtain⟨a,cap,rfl⟩:=h.shape;have C:=z0U z3H nmUs c ps;rw[C]at h⊢;have HM:Hid ((mkL z3H nmUs c ps).length=ps.length):=C;clear C;go_enter func106,ntmps106
 go_wp2
 go_loopw[1,5] (fun j i wr=>∃k:Nat,k≤ps.length∧j=G S (c+(nmL nmUs (ps.take k):Int))∧i=G S k∧Below w.heap.size w wr) (fun _ i _=>ps.length-(intOf i).toNat)
 case atStart=>exact⟨0,Nat.zero_le _,by simp[nmL],rfl,Below.refl _ _⟩
 case round=>
  obtain⟨k,hk,rfl,rfl,hb⟩:=hrel;by_cases A:k<ps.length
  ·have L:k<(mkL z3H nmUs c ps).length:=by have:=HM.out;omega
   obtain⟨b,Y,rfl,Z,hc,M⟩:=(h.below hb).cell (by decide) k L;rw[z4h z3H nmUs c ps k A]at hc M;have V:=z0S nmUs ps k A;have T:=z2w nmUs ps (k+1);have X:=z01 USQ.n ps k A;have D:Hid ((nmL nmUs (ps.take (k+1)):Int)=(nmL nmUs (ps.take k):Int)+(nmUs ps[k]:Int)):=show _=_ by omega
   have W:(nmL nmUs (ps.take k):Int)+(nmUs ps[k]:Int)≤nmL nmUs ps:=by omega
   clear V T h;generalize U:ps[k]=p at*;clear U;obtain⟨z,d⟩:=p;dsimp only[nmUs,USQ.n]at D W X;generalize hy:(nmL nmUs (ps.take k):Int)=y at*;have aa:0≤y:=by omega
   clear hy;have I:∀j x,(ussK.cells (z3H (c+y) (⟨z,d⟩:USQ)))[j]?=some x→wr.cell? ⟨b,Y+k+j,none⟩=some x:=fun j x hx=>by have:=hc j x hx;rwa [show k*ussK.size=k from Nat.mul_one k]at this
   clear hc;have c0:=I 0 (z) rfl;have r0:undoK.At wr z (z14 (c+y) d):=M;have J:=fun w h=>z9k z d (c+y) w h (by omega) (by omega) (by omega)
   obtain⟨ad,ae,N⟩:=r0.shape;subst N;rw[Nat.add_zero]at c0;clear I;have ab:¬(c+y+((d.length*3:Nat):Int)<0):=by omega
   go_wp2_with fail
   refine(J wr r0).mono ?_;rintro e w0 ⟨rfl,E⟩;replace hb:=hb.trans (E.mono hb.size);clear E J c0
   go_wp2
   go_roundw
   case rel=>exact⟨k+1,by omega,by rw[D.out];congr 1;omega,by go_num,hb⟩
   case measure=>simp[intOf];omega
  ·have O:k=ps.length:=by omega
   subst O;rw[List.take_length]
   go_wp2
   go_ret;exact⟨rfl,hb⟩
theorem q0t(ps:List TxnQ):nmL nmTxn ps≤3*(ps.length+nmL TxnQ.n ps):=by
 induction ps with
 |nil=>simp[nmL]
 |cons p r ih=>
  simp only[nmL,List.map_cons,List.sum_cons,List.length_cons]at ih⊢;simp only[nmTxn,TxnQ.n]at ih⊢;omega
theorem q4a(ps:List USQ):nmL nmUs ps≤3*(ps.length+nmL USQ.n ps):=by
 induction ps with
 |nil=>simp[nmL]
 |cons p r ih=>
  simp only[nmL,List.map_cons,List.sum_cons,List.length_cons]at ih⊢;simp only[nmUs,USQ.n]at ih⊢;omega
end Go.Proofs.YtjjoahhnkpjolaaGreatDoor

import Derived.Test.YtlkpdgjnhkjpjaaGreatDoorSUAO
import Derived.Test.YtlkpdgjnhkjpjaaGreatDoorSUAQ
set_option linter.unusedVariables false
set_option linter.unusedSimpArgs false
set_option maxRecDepth 100000
set_option maxHeartbeats 8000000
namespace Go.Proofs.YtlkpdgjnhkjpjaaGreatDoor
open Go.RowKit Go.BigFrame
open TxnQ renaming e->F,n->Q
open Nat renaming le_refl->R,zero_le->H
open Act renaming put->B
open IntKind renaming i64->K
open Value renaming int->G
open Go.Proofs.Tryz
def comN:List TxnD→List TxnD→Nat
 |x::r,y::s=>if z0B x y then comN r s+1 else 0
 |_,_=>0
theorem z8L:∀ (xs ys:List TxnD) (k:Nat),(∀j,j<k→z0B (xs.getD j z0T) (ys.getD j z0T)=true)→k≤xs.length→k≤ys.length→(k=xs.length∨k=ys.length∨z0B (xs.getD k z0T) (ys.getD k z0T)=false)→comN xs ys=k
 |[],ys,k,_,h1,_,_=>by
  have:k=0:=by simpa using h1
  subst this;simp[comN]
 |x::r,[],k,_,_,h2,_=>by
  have:k=0:=by simpa using h2
  subst this;simp[comN]
 |x::r,y::s,0,_,_,_,h=>by
  rcases h with h|h|h
  ·simp at h
  ·simp at h
  ·have:z0B x y=false:=h;simp[comN,this]
 |x::r,y::s,k+1,hA,h1,h2,h=>by
  have h0:z0B x y=true:=hA 0 (by omega);rw [comN,if_pos h0,z8L r s k (fun j hj=>hA (j + 1) (by omega)) (by simpa using h1) (by simpa using h2) (by
   rcases h with h|h|h
   ·exact Or.inl (by simpa using h)
   ·exact Or.inr (Or.inl (by simpa using h))
   ·exact Or.inr (Or.inr h))]
theorem q0o(xs ys:List TxnD):comN xs ys≤xs.length∧comN xs ys≤ys.length:=by
 induction xs generalizing ys with
 |nil=>simp[comN]
 |cons x r ih=>
  cases ys with
  |nil=>simp[comN]
  |cons y s=>
   simp only[comN,List.length_cons];have:=ih s;split<;>omega
def cmV(ds ds':List TxnD):Int:=if bthF ds ds'=0 then(comN ds ds':Int)else 0
theorem z4P(v v':Value)(ps c:List TxnQ)(w:World)(h:txnK.At w v ps)(h':txnK.At w v' c)(hl:ps.length+nmL Q ps≤1048576)(ah:c.length+nmL Q c≤1048576):
  Calls Tryz.prog 211 #[v,v'] w fun e w'=>e=.returned (.agg #[G K (bthF (ps.map F) (c.map F)),G K (cmV (ps.map F) (c.map F))])∧Below w.heap.size w w':=by
 have HV:Hid ((bthF (ps.map F) (c.map F)=0→cmV (ps.map F) (c.map F)=(comN (ps.map F) (c.map F):Int))∧(bthF (ps.map F) (c.map F)≠0→cmV (ps.map F) (c.map F)=0)):=⟨fun h0=>if_pos h0,fun h0=>if_neg h0⟩
 have hB:Below w.heap.size w (w.alloc (.cells #[G K 0,G K 0] 53)):=by go_grown
 have Rb:=Blk.new w 53 #[G K 0,G K 0];have hq:=z8B v v' ps c (w.alloc (.cells #[G K 0,G K 0] 53)) (h.below hB) (h'.below hB) hl ah;rw[World.size_alloc]at hq;obtain⟨a,cap,rfl⟩:=h.shape;obtain⟨a',ak,rfl⟩:=h'.shape;generalize bthF (ps.map F) (c.map F)=C at*;generalize cmV (ps.map F) (c.map F)=V at*;go_enter func211,ntmps211
 go_wp2_with fail
 refine hq.mono ?_;rintro e w1 ⟨rfl,M⟩;rw[←World.size_alloc w (.cells #[G K 0,G K 0] 53)]at M;replace hB:=hB.trans (M.mono hB.size);replace Rb:=Rb.below M;clear hq M;by_cases hC:C=0
 ·have L:Hid (V=(comN (ps.map F) (c.map F):Int)):=HV.out.1 hC;subst hC;clear HV
  go_wp2
  go_loopw[6] (fun j wr=>∃k:Nat,k≤ps.length∧k≤c.length∧j=G K k∧Below w.heap.size w wr∧Blk wr w.heap.size 53 #[G K 0,G K 0]∧Hid (∀j,j<k→z0B ((ps.map F).getD j z0T) ((c.map F).getD j z0T)=true)) (fun j _=>ps.length-(intOf j).toNat)
  case atStart=>exact⟨0,H _,H _,rfl,hB,Rb,fun j hj=>absurd hj (Nat.not_lt_zero _)⟩
  case round=>
   clear hB Rb;obtain⟨k,hk,Z,rfl,hb,Rb,HA⟩:=hrel;obtain⟨mn,ad⟩:∃mn:Nat,mn=min ps.length c.length:=⟨_,rfl⟩
   have D:∀u:Lat wr,(Builtin.min_ #[3,3] 3 #[G K ps.length,G K c.length]).run Tryz.prog u.val=.ok (G K mn) u.val:=fun u=>by
    rw[run_min_int2]
    congr 2
    split<;>omega
   have hW:Below wr.heap.size wr wr.drew:=(Below.refl _ _).drew;have ae:Nonempty (Lat wr):=⟨⟨wr,Below.refl _ _⟩⟩
   by_cases ap:k<mn
   ·have N:k<ps.length:=by omega
    have A:k<c.length:=by omega
    obtain⟨b,ai,rfl,an,Y,J⟩:=(h.below hb).cell (by decide) k N;obtain⟨b',af,rfl,al,O,y⟩:=(h'.below hb).cell (by decide) k A;have E:∀j x,(txnK.cells ps[k])[j]?=some x→wr.cell? ⟨b,ai+k*4+j,none⟩=some x:=Y;have I:∀j x,(txnK.cells c[k])[j]?=some x→wr.cell? ⟨b',af+k*4+j,none⟩=some x:=O;have c0:=E 0 (G K ps[k].i) rfl;have c1:=E 1 (G K ps[k].s) rfl;have c2:=E 2 (G K ps[k].q) rfl;have c3:=E 3 (ps[k].va) rfl;have d0:=I 0 (G K c[k].i) rfl;have d1:=I 1 (G K c[k].s) rfl;have d2:=I 2 (G K c[k].q) rfl;have d3:=I 3 (c[k].va) rfl;rw[Nat.add_zero]at c0 d0;have n1:=z1o Q ps k N;have n2:=z1o Q c k A;have HY:Hid (z0B (F ps[k]) (F c[k])=false→comN (ps.map F) (c.map F)=k):=fun hx=>z8L _ _ k HA.out (by simpa using hk) (by simpa using Z) (Or.inr (Or.inr (by rw[z1t ps k N,z1t c k A];exact hx)))
    have HN:Hid (z0B (F ps[k]) (F c[k])=true→∀j,j<k+1→z0B ((ps.map F).getD j z0T) ((c.map F).getD j z0T)=true):=fun hx j hj=>by
     by_cases ag:j=k
     ·subst ag;rw[z1t ps j N,z1t c j A];exact hx
     ·exact HA.out j (by omega)
    clear HA Y O E I;generalize hS:z0B (F ps[k]) (F c[k])=S at*;have HS:Hid (z0B (F ps[k]) (F c[k])=S):=hS;clear hS;generalize ps[k]=p at*;generalize c[k]=p' at*;obtain⟨i,s,q,va,z⟩:=p;obtain⟨i',s',q',aj,d⟩:=p';replace J:actK.At wr va z:=J;replace y:actK.At wr aj d:=y;replace n1:z.length≤nmL Q ps:=n1;replace n2:d.length≤nmL Q c:=n2;obtain⟨aa,ac,rfl⟩:=J.shape;obtain⟨T,U,rfl⟩:=y.shape;have hR:=(z0w J).2;have W:=(z0w y).2;dsimp only[F]at c0 c1 c2 c3 d0 d1 d2 d3 HS;replace c0:=z0d c0;replace c1:=z0d c1;replace c2:=z0d c2;replace c3:=z0d c3;replace d0:=z0d d0;replace d1:=z0d d1;replace d2:=z0d d2;replace d3:=z0d d3;have hq:=fun w h1 h2=>z3R ⟨i,s,q,z⟩ ⟨i',s',q',d⟩ aa T ac U w h1 h2 (by dsimp only;omega) (by dsimp only;omega)
    rw[HS.out]at hq;dsimp only at hq;have ab:(k:Int)<(mn:Int):=by omega
    have ao:(k:Int)<(ps.length:Int):=by omega
    have am:(k:Int)<(c.length:Int):=by omega
    clear HS ad J y
    go_wp2_with fail
    refine z0a (S:=fun w'=>∃u:Lat wr,w'=u.val) (by kernel_rfl) ?_;refine sgr [(0,2),(3,1)] 15 (by kernel_rfl) ⟨⟨_,hW⟩,rfl⟩ ?_;simp only[pkE];repeat go_big_quiet_step (fail)
    refine wpQuiet_nil ?_;refine qta 2 (some 17) (G K ps.length) 14 (by kernel_rfl) (fun u _=>by kernel_rfl) ⟨⟨_,hW⟩,rfl⟩ ?_;simp only[B,pjE];refine qta 4 (some 19) (G K c.length) 13 (by kernel_rfl) (fun u _=>by kernel_rfl) ⟨⟨_,hW⟩,rfl⟩ ?_;simp only[B,pjE];refine qta 5 (some 20) (G K mn) 12 (by kernel_rfl) (fun u hu=>?_) ⟨⟨_,hW⟩,rfl⟩ ?_
    ·obtain⟨u,rfl⟩:=hu;refine Eq.trans (b:=some (((Builtin.min_ #[3,3] 3 #[G K ps.length,G K c.length])>>=fun x=>pure (Next.value x):Sem Next).run Tryz.prog u.val)) (by kernel_rfl) ?_;rw[Sem.run_bind,D u];rfl
    simp only[B,pjE];refine sgr [(6,10)] 2 (by kernel_rfl) ⟨⟨_,hW⟩,rfl⟩ ?_;simp only[pkE];repeat go_big_quiet_step (fail)
    refine wpQuiet_nil ?_;refine cla 16 (some 31) 65 #[.agg #[G K i,G K s,G K q,.slice aa z.length ac],.agg #[G K i',G K s',G K q',.slice T d.length U]] 1 (by kernel_rfl) ?_;refine(hq _ (hR.below hW) (W.below hW)).mono ?_;rintro e w9 ⟨rfl,X⟩;replace hW:=hW.trans (X.mono hW.size);clear X;refine⟨_,rfl,⟨⟨_,hW⟩,rfl⟩,?_⟩;simp only[B,pjE];refine sgr [(17,1)] 0 (by kernel_rfl) ⟨⟨_,hW⟩,rfl⟩ ?_;simp only[pkE];repeat go_big_quiet_step (fail)
    refine wpQuiet_nil ?_;refine z0e (by kernel_rfl) ?_;replace hb:=hb.trans (hW.mono hb.size);replace Rb:=Rb.below hW;clear hW ae hq c0 c1 c2 c3 d0 d1 d2 d3 hR W D
    cases S with
    |true=>
     have HR:Hid _:=HN.out rfl;clear HY HN
     go_wp2
     go_roundw
     case rel=>exact⟨k+1,by omega,by omega,by go_num,hb,Rb,HR.out⟩
     case measure=>simp[intOf];omega
    |false=>
     have HR:Hid (V=(k:Int)):=show _=_ by rw[L.out,HY.out rfl]
     obtain⟨q0,q1⟩:=Rb.cel2;obtain⟨f0,f1⟩:=Rb.frz2;clear HY HN L
     go_wp2
     exact bodyPost_ret (v:=.agg #[G K 0,G K k]) (by simp[results,results211,go_sem,q0,q1]) rfl ⟨by rw[HR.out],(hb.setCell (p:=⟨w.heap.size,0,none⟩) (R _) _).setCell (p:=⟨w.heap.size,1,none⟩) (R _) _⟩
   ·have ab:¬(k:Int)<(mn:Int):=by omega
    have HR:Hid (V=(k:Int)):=show _=_ by
     rw[L.out,z8L _ _ k HA.out (by simpa using hk) (by simpa using Z) (by rw[List.length_map,List.length_map];omega)]
    clear HA L ad
    go_wp2_with fail
    refine z0a (S:=fun w'=>∃u:Lat wr,w'=u.val) (by kernel_rfl) ?_;refine sgr [(0,2),(3,1)] 15 (by kernel_rfl) ⟨⟨_,hW⟩,rfl⟩ ?_;simp only[pkE];repeat go_big_quiet_step (fail)
    refine wpQuiet_nil ?_;refine qta 2 (some 17) (G K ps.length) 14 (by kernel_rfl) (fun u _=>by kernel_rfl) ⟨⟨_,hW⟩,rfl⟩ ?_;simp only[B,pjE];refine qta 4 (some 19) (G K c.length) 13 (by kernel_rfl) (fun u _=>by kernel_rfl) ⟨⟨_,hW⟩,rfl⟩ ?_;simp only[B,pjE];refine qta 5 (some 20) (G K mn) 12 (by kernel_rfl) (fun u hu=>?_) ⟨⟨_,hW⟩,rfl⟩ ?_
    ·obtain⟨u,rfl⟩:=hu;refine Eq.trans (b:=some (((Builtin.min_ #[3,3] 3 #[G K ps.length,G K c.length])>>=fun x=>pure (Next.value x):Sem Next).run Tryz.prog u.val)) (by kernel_rfl) ?_;rw[Sem.run_bind,D u];rfl
    simp only[B,pjE];refine sgr [(6,10)] 2 (by kernel_rfl) ⟨⟨_,hW⟩,rfl⟩ ?_;simp only[pkE];repeat go_big_quiet_step (fail)
    refine wpQuiet_nil ?_;refine ska 16 (some 31) 1 (by kernel_rfl) ⟨⟨_,hW⟩,rfl⟩ ?_;simp only[B,pjE];refine sgr [(17,1)] 0 (by kernel_rfl) ⟨⟨_,hW⟩,rfl⟩ ?_;simp only[pkE];repeat go_big_quiet_step (fail)
    refine wpQuiet_nil ?_;refine z0e (by kernel_rfl) ?_;replace hb:=hb.trans (hW.mono hb.size);replace Rb:=Rb.below hW;clear hW ae D;generalize wr.drew=wd at*;obtain⟨q0,q1⟩:=Rb.cel2;obtain⟨f0,f1⟩:=Rb.frz2
    go_wp2
    exact bodyPost_ret (v:=.agg #[G K 0,G K k]) (by simp[results,results211,go_sem,q0,q1]) rfl ⟨by rw[HR.out],(hb.setCell (p:=⟨w.heap.size,0,none⟩) (R _) _).setCell (p:=⟨w.heap.size,1,none⟩) (R _) _⟩
 ·have HR:Hid (V=0):=HV.out.2 hC;obtain⟨q0,q1⟩:=Rb.cel2;obtain⟨f0,f1⟩:=Rb.frz2;clear HV
  go_wp2
  exact bodyPost_ret (v:=.agg #[G K C,G K 0]) (by simp[results,results211,go_sem,q0,q1]) rfl ⟨by rw[HR.out],(hB.setCell (p:=⟨w.heap.size,0,none⟩) (R _) _).setCell (p:=⟨w.heap.size,1,none⟩) (R _) _⟩
theorem z8M(v v':Value)(ps c:List TxnQ)(w:World)(h:txnK.At w v ps)(h':txnK.At w v' c)(hl:ps.length+nmL Q ps≤1048576)(am:c.length+nmL Q c≤1048576):
  Calls Tryz.prog 232 #[v,v'] w fun e w'=>e=.returned (G K (comN (ps.map F) (c.map F)))∧Below w.heap.size w w':=by
 obtain⟨a,cap,rfl⟩:=h.shape;obtain⟨a',aj,rfl⟩:=h'.shape;obtain⟨V,hV⟩:∃V:Int,V=(comN (ps.map F) (c.map F):Int):=⟨_,rfl⟩
 have L:Hid (V=(comN (ps.map F) (c.map F):Int)):=hV;rw[←hV];clear hV;go_enter func232,ntmps232
 go_wp2
 go_loopw[5] (fun j wr=>∃k:Nat,k≤ps.length∧k≤c.length∧j=G K k∧Below w.heap.size w wr∧Hid (∀j,j<k→z0B ((ps.map F).getD j z0T) ((c.map F).getD j z0T)=true)) (fun j _=>ps.length-(intOf j).toNat)
 case atStart=>exact⟨0,H _,H _,rfl,Below.refl _ _,fun j hj=>absurd hj (Nat.not_lt_zero _)⟩
 case round=>
   obtain⟨k,hk,ad,rfl,hb,HA⟩:=hrel;have hW:Below wr.heap.size wr wr.drew:=(Below.refl _ _).drew;have T:Nonempty (Lat wr):=⟨⟨wr,Below.refl _ _⟩⟩
   by_cases ah:k<ps.length∧k<c.length
   ·obtain⟨I,y⟩:=ah;obtain⟨b,M,rfl,al,ab,J⟩:=(h.below hb).cell (by decide) k I;obtain⟨b',C,rfl,ak,O,z⟩:=(h'.below hb).cell (by decide) k y;have D:∀j x,(txnK.cells ps[k])[j]?=some x→wr.cell? ⟨b,M+k*4+j,none⟩=some x:=ab;have E:∀j x,(txnK.cells c[k])[j]?=some x→wr.cell? ⟨b',C+k*4+j,none⟩=some x:=O;have c0:=D 0 (G K ps[k].i) rfl;have c1:=D 1 (G K ps[k].s) rfl;have c2:=D 2 (G K ps[k].q) rfl;have c3:=D 3 (ps[k].va) rfl;have d0:=E 0 (G K c[k].i) rfl;have d1:=E 1 (G K c[k].s) rfl;have d2:=E 2 (G K c[k].q) rfl;have d3:=E 3 (c[k].va) rfl;rw[Nat.add_zero]at c0 d0;have n1:=z1o Q ps k I;have n2:=z1o Q c k y;have HY:Hid (z0B (F ps[k]) (F c[k])=false→comN (ps.map F) (c.map F)=k):=fun hx=>z8L _ _ k HA.out (by simpa using hk) (by simpa using ad) (Or.inr (Or.inr (by rw[z1t ps k I,z1t c k y];exact hx)))
    have HN:Hid (z0B (F ps[k]) (F c[k])=true→∀j,j<k+1→z0B ((ps.map F).getD j z0T) ((c.map F).getD j z0T)=true):=fun hx j hj=>by
     by_cases ag:j=k
     ·subst ag;rw[z1t ps j I,z1t c j y];exact hx
     ·exact HA.out j (by omega)
    clear HA ab O D E;generalize hS:z0B (F ps[k]) (F c[k])=S at*;have HS:Hid (z0B (F ps[k]) (F c[k])=S):=hS;clear hS;generalize ps[k]=p at*;generalize c[k]=p' at*;obtain⟨i,s,q,va,A⟩:=p;obtain⟨i',s',q',ai,d⟩:=p';replace J:actK.At wr va A:=J;replace z:actK.At wr ai d:=z;replace n1:A.length≤nmL Q ps:=n1;replace n2:d.length≤nmL Q c:=n2;obtain⟨aa,ac,rfl⟩:=J.shape;obtain⟨U,W,rfl⟩:=z.shape;have hR:=(z0w J).2;have Y:=(z0w z).2;dsimp only[F]at c0 c1 c2 c3 d0 d1 d2 d3 HS;have X:Box4 wr b (M+k*4) (G K i) (G K s) (G K q) (.slice aa A.length ac):=⟨c0,c1,c2,c3⟩
    have N:Box4 wr b' (C+k*4) (G K i') (G K s') (G K q') (.slice U d.length W):=⟨d0,d1,d2,d3⟩
    have hq:=fun w h1 h2 h3 h4=>z6D ⟨i,s,q,A⟩ ⟨i',s',q',d⟩ b (M+k*4) b' (C+k*4) aa U ac W w h1 h2 h3 h4 (by dsimp only;omega) (by dsimp only;omega)
    rw[HS.out]at hq;dsimp only at hq;have ae:(k:Int)<(ps.length:Int):=by omega
    have af:(k:Int)<(c.length:Int):=by omega
    clear HS J z c0 c1 c2 c3 d0 d1 d2 d3
    go_wp2_with fail
    refine z0a (S:=fun w'=>∃u:Lat wr,w'=u.val) (by kernel_rfl) ?_;refine sgr [(0,2)] 17 (by kernel_rfl) ⟨⟨_,hW⟩,rfl⟩ ?_;simp only[pkE];repeat go_big_quiet_step (fail)
    refine wpQuiet_nil ?_;refine qta 2 (some 8) (G K ps.length) 16 (by kernel_rfl) (fun u _=>by kernel_rfl) ⟨⟨_,hW⟩,rfl⟩ ?_;simp only[B,pjE];refine sgr [(3,4)] 12 (by kernel_rfl) ⟨⟨_,hW⟩,rfl⟩ ?_;simp only[pkE];repeat go_big_quiet_step (fail)
    refine wpQuiet_nil ?_;refine qta 7 (some 13) (G K c.length) 11 (by kernel_rfl) (fun u _=>by kernel_rfl) ⟨⟨_,hW⟩,rfl⟩ ?_;simp only[B,pjE];refine sgr [(8,9)] 2 (by kernel_rfl) ⟨⟨_,hW⟩,rfl⟩ ?_;simp only[pkE];repeat go_big_quiet_step (fail)
    refine wpQuiet_nil ?_;refine cla 17 (some 23) 172 #[.pointer (some ⟨b,M+k*4,none⟩),.pointer (some ⟨b',C+k*4,none⟩)] 1 (by kernel_rfl) ?_;refine(hq _ (X.below hW) (N.below hW) (hR.below hW) (Y.below hW)).mono ?_;rintro e w9 ⟨rfl,Z⟩;replace hW:=hW.trans (Z.mono hW.size);clear Z;refine⟨_,rfl,⟨⟨_,hW⟩,rfl⟩,?_⟩;simp only[B,pjE];refine sgr [(18,1)] 0 (by kernel_rfl) ⟨⟨_,hW⟩,rfl⟩ ?_;simp only[pkE];repeat go_big_quiet_step (fail)
    refine wpQuiet_nil ?_;refine z0e (by kernel_rfl) ?_;replace hb:=hb.trans (hW.mono hb.size);clear hW T hq X N hR Y
    cases S with
    |true=>
     have HR:Hid _:=HN.out rfl;clear HY HN
     go_wp2
     go_roundw
     case rel=>exact⟨k+1,by omega,by omega,by go_num,hb,HR.out⟩
     case measure=>simp[intOf];omega
    |false=>
     have HR:Hid (V=(k:Int)):=show _=_ by rw[L.out,HY.out rfl]
     clear HY HN L
     go_wp2
     go_ret;exact⟨by rw[HR.out];rfl,hb⟩
   ·have HR:Hid (V=(k:Int)):=show _=_ by
     rw[L.out,z8L _ _ k HA.out (by simpa using hk) (by simpa using ad) (by rw[List.length_map,List.length_map];omega)]
    clear HA L;by_cases I:k<ps.length
    ·have ae:(k:Int)<(ps.length:Int):=by omega
     have y:¬k<c.length:=by omega
     have af:¬(k:Int)<(c.length:Int):=by omega
     go_wp2_with fail
     refine z0a (S:=fun w'=>∃u:Lat wr,w'=u.val) (by kernel_rfl) ?_;refine sgr [(0,2)] 17 (by kernel_rfl) ⟨⟨_,hW⟩,rfl⟩ ?_;simp only[pkE];repeat go_big_quiet_step (fail)
     refine wpQuiet_nil ?_;refine qta 2 (some 8) (G K ps.length) 16 (by kernel_rfl) (fun u _=>by kernel_rfl) ⟨⟨_,hW⟩,rfl⟩ ?_;simp only[B,pjE];refine sgr [(3,4)] 12 (by kernel_rfl) ⟨⟨_,hW⟩,rfl⟩ ?_;simp only[pkE];repeat go_big_quiet_step (fail)
     refine wpQuiet_nil ?_;refine qta 7 (some 13) (G K c.length) 11 (by kernel_rfl) (fun u _=>by kernel_rfl) ⟨⟨_,hW⟩,rfl⟩ ?_;simp only[B,pjE];refine sgr [(8,9)] 2 (by kernel_rfl) ⟨⟨_,hW⟩,rfl⟩ ?_;simp only[pkE];repeat go_big_quiet_step (fail)
     refine wpQuiet_nil ?_;refine ska 17 (some 23) 1 (by kernel_rfl) ⟨⟨_,hW⟩,rfl⟩ ?_;simp only[B,pjE];refine sgr [(18,1)] 0 (by kernel_rfl) ⟨⟨_,hW⟩,rfl⟩ ?_;simp only[pkE];repeat go_big_quiet_step (fail)
     refine wpQuiet_nil ?_;refine z0e (by kernel_rfl) ?_;replace hb:=hb.trans (hW.mono hb.size);clear hW T
     go_wp2
     go_ret;exact⟨by rw[HR.out];rfl,hb⟩
    ·have ae:¬(k:Int)<(ps.length:Int):=by omega
     go_wp2_with fail
     refine z0a (S:=fun w'=>∃u:Lat wr,w'=u.val) (by kernel_rfl) ?_;refine sgr [(0,2)] 17 (by kernel_rfl) ⟨⟨_,hW⟩,rfl⟩ ?_;simp only[pkE];repeat go_big_quiet_step (fail)
     refine wpQuiet_nil ?_;refine qta 2 (some 8) (G K ps.length) 16 (by kernel_rfl) (fun u _=>by kernel_rfl) ⟨⟨_,hW⟩,rfl⟩ ?_;simp only[B,pjE];refine sgr [(3,4)] 12 (by kernel_rfl) ⟨⟨_,hW⟩,rfl⟩ ?_;simp only[pkE];repeat go_big_quiet_step (fail)
     refine wpQuiet_nil ?_;refine ska 7 (some 13) 11 (by kernel_rfl) ⟨⟨_,hW⟩,rfl⟩ ?_;simp only[B,pjE];refine sgr [(8,9)] 2 (by kernel_rfl) ⟨⟨_,hW⟩,rfl⟩ ?_;simp only[pkE];repeat go_big_quiet_step (fail)
     refine wpQuiet_nil ?_;refine ska 17 (some 23) 1 (by kernel_rfl) ⟨⟨_,hW⟩,rfl⟩ ?_;simp only[B,pjE];refine sgr [(18,1)] 0 (by kernel_rfl) ⟨⟨_,hW⟩,rfl⟩ ?_;simp only[pkE];repeat go_big_quiet_step (fail)
     refine wpQuiet_nil ?_;refine z0e (by kernel_rfl) ?_;replace hb:=hb.trans (hW.mono hb.size);clear hW T
     go_wp2
     go_ret;exact⟨by rw[HR.out];rfl,hb⟩
end Go.Proofs.YtlkpdgjnhkjpjaaGreatDoor

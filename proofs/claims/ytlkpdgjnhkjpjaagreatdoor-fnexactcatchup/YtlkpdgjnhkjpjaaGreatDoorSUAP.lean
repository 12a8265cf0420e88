import Derived.Test.YtlkpdgjnhkjpjaaGreatDoorSUAF
set_option linter.unusedVariables false
set_option linter.unusedSimpArgs false
set_option maxRecDepth 100000
set_option maxHeartbeats 4000000
namespace Go.Proofs.YtlkpdgjnhkjpjaaGreatDoor
open Go.RowKit Go.BigFrame
open Nat renaming le_refl->H,zero_le->t
open List renaming mem_append_right->o,mem_append_left->Va
open IntKind renaming i64->G
open Value renaming int->F,slice->K
open Go.Proofs.Tryz renaming prog->Q
open Go.Proofs.Tryz
theorem q6m(p:USQ)(c:Int)(w:World)(h:ussK.rd w p)(hn:USQ.wf p)(h0:0≤c)(h1:c≤1048576):
  Calls Q 189 #[p.va,F G c] w fun e w'=>∃r:Int,e=.returned (F G r)∧(¬r<0→(USQ.n p:Int)+r=c)∧Below w.heap.size w w':=q1V p.va p.us c w h hn h0 h1
theorem q6n(p p':USQ)(w:World)(h:ussK.rd w p)(h':ussK.rd w p')(he:p.e=p'.e)(hl:USQ.n p≤1048576):
  Calls Q 195 #[p.va,p'.va] w fun e w'=>e=.returned (.bool true)∧Below w.heap.size w w':=by
 obtain⟨va,us⟩:=p;obtain⟨va',us'⟩:=p';have he:us=us':=he;subst he;exact q1X va va' us w h h' hl
theorem q6o(p:USQ)(w:World)(h:ussK.rd w p)(hl:USQ.n p≤1048576):
  Calls Q 192 #[p.va] w fun e w'=>∃p':USQ,e=.returned p'.va∧p'.e=p.e∧ussK.own w' p'∧(ussK.foot p').Nodup∧(∀k∈ussK.foot p',w.heap.size≤k)∧Below w.heap.size w w':=by
 refine(q1W p.va p.us w h hl).mono ?_;rintro e w' ⟨v',rfl,ho,hn,hg,hb⟩;exact⟨⟨v',p.us⟩,rfl,rfl,ho,hn,hg,hb⟩
theorem q5r(v:Value)(ps:List USQ)(c:Int)(w:World)(h:ussK.At w v ps)(hn:ps.length≤9223372036854775807)(J:∀p∈ps,USQ.wf p)(h0:0≤c)(h1:c≤1048576):
  Calls Q 132 #[v,F G c] w fun e w'=>∃r:Int,e=.returned (F G r)∧(¬r<0→((ps.length+nmL USQ.n ps:Nat):Int)+r=c)∧Below w.heap.size w w':=by
 obtain⟨a,cap,rfl⟩:=h.shape;by_cases U:c-ps.length<0
 ·go_enter func132,ntmps132
  go_wp2
  go_ret;exact⟨_,rfl,fun h=>by omega,Below.refl _ _⟩
 ·go_enter func132,ntmps132
  go_wp2
  go_loopw[1,5] (fun l i wr=>∃ (k:Nat) (x:Int),k≤ps.length∧i=F G k∧l=F G x∧0≤x∧x≤1048576∧Hid (ps.length+nmL USQ.n (ps.take k)+x=c)∧Below w.heap.size w wr) (fun _ i _=>ps.length-(intOf i).toNat)
  case atStart=>exact⟨0,c-ps.length,t _,rfl,by go_num,by omega,by omega,show _=_ by simp[nmL];omega,Below.refl _ _⟩
  case round=>
   obtain⟨k,x,hk,rfl,rfl,N,O,HS,hb⟩:=hrel;by_cases d:k<ps.length
   ·obtain⟨b,T,rfl,W,hc,M⟩:=(h.below hb).cell (by decide) k d;have C:∀j x,(ussK.cells ps[k])[j]?=some x→wr.cell? ⟨b,T+k+j,none⟩=some x:=fun j x hx=>by have:=hc j x hx;rwa [show k*ussK.size=k from Nat.mul_one k]at this
    have c0:=C 0 (ps[k].va) rfl;have hs:=z1r USQ.n ps k d;have HN:=J _ (List.getElem_mem d);have z:Hid (∀y:Int,(USQ.n ps[k]:Int)+y=x→ps.length+nmL USQ.n (ps.take (k+1))+y=c):=by
     intro y hy;have:=HS.out;omega
    clear HS hs hc C;generalize ps[k]=p at*;have E:=q6m p x wr M HN N O;generalize USQ.n p=m at*;rw[Nat.add_zero]at c0
    go_wp2_with fail
    refine E.mono ?_;rintro e w2 ⟨r,rfl,hr,A⟩;replace hb:=hb.trans (A.mono hb.size);clear A E c0;by_cases V:r<0
    ·go_wp2
     go_ret;exact⟨_,rfl,fun h=>by omega,hb⟩
    ·have D:=hr (by omega);have HR:Hid (ps.length+nmL USQ.n (ps.take (k+1))+r=c):=z.out r D;have L:r≤1048576:=by omega
     clear z hr D
     go_wp2
     go_roundw
     case rel=>exact⟨k+1,r,by omega,by go_num,rfl,by omega,L,HR.out,hb⟩
     case measure=>simp[intOf];omega
   ·have I:k=ps.length:=by omega
    subst I;rw[List.take_length]at HS
    go_wp2
    go_ret;exact⟨_,rfl,fun _=>by have:=HS.out;omega,hb⟩
theorem q5s(v v':Value)(ps qs:List USQ)(w:World)(h:ussK.At w v ps)(h':ussK.At w v' qs)(he:ps.map USQ.e=qs.map USQ.e)(hl:(ps.length+nmL USQ.n ps)≤1048576):
  Calls Q 142 #[v,v'] w fun e w'=>e=.returned (.bool true)∧Below w.heap.size w w':=by
 obtain⟨a,cap,rfl⟩:=h.shape;obtain⟨a',T,rfl⟩:=h'.shape;have c:qs.length=ps.length:=by
  have:=congrArg List.length he;simpa using this.symm
 rw[c]at h'⊢;have HL:Hid (qs.length=ps.length):=c;clear c;go_enter func142,ntmps142
 go_wp2
 go_loopw[5] (fun i wr=>∃k:Nat,k≤ps.length∧i=F G k∧Below w.heap.size w wr) (fun i _=>ps.length-(intOf i).toNat)
 case atStart=>exact⟨0,t _,rfl,Below.refl _ _⟩
 case round=>
  obtain⟨k,hk,rfl,hb⟩:=hrel;by_cases z:k<ps.length
  ·have d:k<qs.length:=by have:=HL.out;omega
   obtain⟨b,O,rfl,V,hc,J⟩:=(h.below hb).cell (by decide) k z;obtain⟨b',L,rfl,U,hd,y⟩:=(h'.below hb).cell (by decide) k d;have D:∀j x,(ussK.cells ps[k])[j]?=some x→wr.cell? ⟨b,O+k+j,none⟩=some x:=fun j x hx=>by have:=hc j x hx;rwa [show k*ussK.size=k from Nat.mul_one k]at this
   have E:∀j x,(ussK.cells qs[k])[j]?=some x→wr.cell? ⟨b',L+k+j,none⟩=some x:=fun j x hx=>by have:=hd j x hx;rwa [show k*ussK.size=k from Nat.mul_one k]at this
   have c0:=D 0 (ps[k].va) rfl;have d0:=E 0 (qs[k].va) rfl;have I:USQ.e ps[k]=USQ.e qs[k]:=by
    have:=congrArg (·[k]?) he;simpa[z,d]using this
   have N:=z1o USQ.n ps k z;clear hc D hd E;generalize ps[k]=p at*;generalize qs[k]=p' at*;have A:=fun w h1 h2=>q6n p p' w h1 h2 I (show USQ.n p≤1048576 by omega)
   clear I N;rw[Nat.add_zero]at c0 d0;have k0:=z0d c0;have l0:=z0d d0;clear c0 d0;have hW:Below wr.heap.size wr wr.drew:=(Below.refl _ _).drew;have M:Nonempty (Lat wr):=⟨⟨wr,Below.refl _ _⟩⟩
   go_wp2_with fail
   refine z0a (S:=fun w'=>∃u:Lat wr,w'=u.val) (by kernel_rfl) ?_;refine sgr [(0,8)] 2 (by kernel_rfl) ⟨⟨_,hW⟩,rfl⟩ ?_;simp only[pkE];repeat go_big_quiet_step (fail)
   refine wpQuiet_nil ?_;refine cla 8 (some 25) 195 #[p.va,p'.va] 1 (by kernel_rfl) ?_;refine(A _ (ussK.rd_below J hW) (ussK.rd_below y hW)).mono ?_;rintro e w2 ⟨rfl,C⟩;replace hW:=hW.trans (C.mono hW.size);clear C;refine⟨_,rfl,⟨⟨_,hW⟩,rfl⟩,?_⟩;simp only[Act.put,pjE];refine sgr [(9,1)] 0 (by kernel_rfl) ⟨⟨_,hW⟩,rfl⟩ ?_;simp only[pkE];repeat go_big_quiet_step (fail)
   refine wpQuiet_nil ?_;refine z0e (by kernel_rfl) ?_;replace hb:=hb.trans (hW.mono hb.size);clear k0 l0 hW M J y A
   go_wp2
   go_roundw
   case rel=>exact⟨k+1,by omega,by go_num,hb⟩
   case measure=>simp[intOf];omega
  ·go_wp2
   go_ret;exact⟨rfl,hb⟩
theorem q5t(v:Value)(ps:List USQ)(w:World)(h:ussK.At w v ps)(hl:(ps.length+nmL USQ.n ps)≤1048576):
  Calls Q 137 #[v] w fun e w'=>∃v' qs,e=.returned v'∧qs.map USQ.e=ps.map USQ.e∧ussK.Own w' v' qs∧(ussK.fp v' qs).Nodup∧(∀k∈ussK.fp v' qs,w.heap.size≤k)∧Below w.heap.size w w':=by
 obtain⟨a,cap,rfl⟩:=h.shape;obtain⟨i0,hi,ao,ap,aq⟩:=info_parts z2P;have J:i0.bytes*ps.length≤281474976710656:=by rw[aq];omega
 have ae:ps.length≤maxLen:=by unfold maxLen;omega
 go_enter func137,ntmps137
 go_wp2_with (at_make;refine wpList_make_full _ rfl _ _ 27 rfl w.heap.size 160 i0 (K none 0 0) 1 Tryz.underlying27 hi ao ap _ _ _ _ ps.length rfl rfl rfl rfl J ae (H _) ?_)
 intro w1 M C;have Y:Below w.heap.size w w1:=(Below.refl _ _).grown C (H _) (by simp);have hO:ussK.Own w1 (K (some ⟨w.heap.size,0,none⟩) ps.length ps.length) (List.replicate ps.length (⟨K none 0 0,[]⟩:USQ)):=by
  refine⟨?_,fun p hp=>?_⟩
  ·rw[List.length_replicate,←z4U (⟨K none 0 0,[]⟩:USQ) _ (by decide)];rw[show ps.length*ussK.size=ps.length from Nat.mul_one _];exact z0r M (t _)
  ·rw[(List.mem_replicate.1 hp).2];exact⟨World.ownsRow_nil _ _ _ _,fun p hp=>by simp at hp⟩
 have hF:ussK.fp (K (some ⟨w.heap.size,0,none⟩) ps.length ps.length) (List.replicate ps.length (⟨K none 0 0,[]⟩:USQ))=[w.heap.size]:=q0a rfl;have HN:Hid ((ussK.fp (K (some ⟨w.heap.size,0,none⟩) ps.length ps.length) (List.replicate ps.length (⟨K none 0 0,[]⟩:USQ))).Nodup):=by rw[hF];show List.Nodup _;simp
 have HG:Hid (∀x∈ussK.fp (K (some ⟨w.heap.size,0,none⟩) ps.length ps.length) (List.replicate ps.length (⟨K none 0 0,[]⟩:USQ)),w.heap.size≤x):=by rw[hF];intro x hx;simp at hx;omega
 have HZ:Hid (∀j (hj:j<(List.replicate ps.length (⟨K none 0 0,[]⟩:USQ)).length),0≤j→(List.replicate ps.length (⟨K none 0 0,[]⟩:USQ))[j]=(⟨K none 0 0,[]⟩:USQ)):=fun j hj _=>by simp
 have af:(List.replicate ps.length (⟨K none 0 0,[]⟩:USQ)).length=ps.length:=by simp
 clear M C hF;generalize List.replicate ps.length (⟨K none 0 0,[]⟩:USQ)=aj at*;have HE:Hid ((aj.take 0).map USQ.e=(ps.take 0).map USQ.e):=show _=_ by simp
 go_wp2
 go_loopw [4] (fun i wr=>∃ (k:Nat) (qs:List USQ),k≤ps.length∧i=F G k∧Hid (qs.length=ps.length)∧Hid ((qs.take k).map USQ.e=(ps.take k).map USQ.e)∧Hid (∀ j (hj:j < qs.length),k≤j→qs[j]=(⟨K none 0 0,[]⟩:USQ))∧ussK.Own wr (K (some ⟨w.heap.size,0,none⟩) ps.length ps.length) qs ∧
  Hid ((ussK.fp (K (some ⟨w.heap.size,0,none⟩) ps.length ps.length) qs).Nodup)∧Hid (∀ x∈ussK.fp (K (some ⟨w.heap.size,0,none⟩) ps.length ps.length) qs,w.heap.size≤x)∧Below w.heap.size w wr) (fun i _=>ps.length - (intOf i).toNat)
 case atStart=>exact⟨0,aj,t _,rfl,af,HE,HZ,hO,HN,HG,Y⟩
 case round=>
  clear HE HZ hO HN HG Y af;obtain⟨k,qs,hk,rfl,HQ,HE,HZ,hO,HN,HG,hb⟩:=hrel;by_cases U:k<ps.length
  ·have c:k<qs.length:=by have:=HQ.out;omega
   have W:=HZ.out k c (H _);obtain⟨b,ar,rfl,au,hc,ag⟩:=(h.below hb).cell (by decide) k U;have aa:∀j x,(ussK.cells ps[k])[j]?=some x→wr.cell? ⟨b,ar+k+j,none⟩=some x:=fun j x hx=>by have:=hc j x hx;rwa [show k*ussK.size=k from Nat.mul_one k]at this
   have c0:=aa 0 (ps[k].va) rfl;have ax:=z1o USQ.n ps k U;have X:Hid (∀p':USQ,p'.e=USQ.e ps[k]→((qs.set k p').take (k+1)).map USQ.e=(ps.take (k+1)).map USQ.e):=by
    intro p' am;have h1:=HE.out;rw[List.take_succ_eq_append_getElem U,List.take_succ_eq_append_getElem (show k<(qs.set k p').length by simpa using c)];simp only[List.map_append,List.map_cons,List.map_nil,List.getElem_set_self,am,List.take_set_of_le (H k),h1]
   clear hc aa;generalize ps[k]=p at*;have ah:=q6o p wr ag (by omega);rw[Nat.add_zero]at c0
   go_wp2_with fail
   refine ah.mono ?_;rintro e w2 ⟨p',rfl,V,d,D,y,Z⟩;obtain⟨x0,y0⟩:=p';have o0:undoK.Own w2 x0 y0:=d;obtain⟨a0,b0,rfl⟩:=o0.shape;clear o0;dsimp only;generalize hP:(⟨K a0 y0.length b0,y0⟩:USQ)=p' at V d D y;have O:ussK.cells p'=[K a0 y0.length b0]:=by rw[←hP];rfl
   have I:=hO.below Z;obtain⟨e0,f0⟩:=I.cell k c 0 _ (by rw[W];rfl);have ad:∀j,k*ussK.size+j=k+j:=fun j=>by rw[show k*ussK.size=k from Nat.mul_one k]
   rw[ad]at e0 f0;rw[Nat.add_zero]at e0 f0;have z:=I.1;have hQ:=HQ.out;rw[hQ]at z;have A:=z2g z (k) [K a0 y0.length b0];rw[←O]at A;have T:∀x∈ussK.fp (K (some ⟨w.heap.size,0,none⟩) ps.length ps.length) qs,x<wr.heap.size:=hO.lt;have ab:w.heap.size∈ussK.fp (K (some ⟨w.heap.size,0,none⟩) ps.length ps.length) qs:=by simp[Kind.fp,blk,Value.ownBlock]
   have av:w.heap.size<wr.heap.size:=T _ ab;have E:=HN.out;have L:∀x∈ussK.foot p',x∉ussK.fp (K (some ⟨w.heap.size,0,none⟩) ps.length ps.length) qs:=fun x hx an=>by have:=y x hx;have:=T x an;omega
   have N:ussK.Own (w2.setCell ⟨w.heap.size,k,none⟩ (K a0 y0.length b0)) (K (some ⟨w.heap.size,0,none⟩) ps.length ps.length) (qs.set k p'):=by
    refine Kind.Own.put I k c p' ?_ (Out.setCell _ _ _ _) ?_ d ?_
    ·rw[hQ];rw[show k*ussK.size=k from Nat.mul_one k];rw[O]at A⊢;exact A
    ·intro q hq x hx ai;simp only[Kind.fp,blk,Value.ownBlock,Option.toList,List.cons_append,List.nil_append,List.nodup_cons]at E;exact E.1 (List.mem_flatMap.2 ⟨q,hq,ai▸hx⟩)
    ·intro x hx ai;have:=y x hx;omega
   have R:Hid (ussK.Own (w2.setCell ⟨w.heap.size,k,none⟩ (K a0 y0.length b0)) (K (some ⟨w.heap.size,0,none⟩) ps.length ps.length) (qs.set k p')∧Below w.heap.size w (w2.setCell ⟨w.heap.size,k,none⟩ (K a0 y0.length b0))):=by
    refine⟨N,?_⟩;have ak:=hb.trans (Z.mono hb.size);exact(ak.setCell (p:=⟨w.heap.size,k,none⟩) (H _) _)
   have R1:Hid ((ussK.fp (K (some ⟨w.heap.size,0,none⟩) ps.length ps.length) (qs.set k p')).Nodup):=z3E E k c p' (by rw[W];rfl) D L;have R2:Hid (∀x∈ussK.fp (K (some ⟨w.heap.size,0,none⟩) ps.length ps.length) (qs.set k p'),w.heap.size≤x):=by
    intro x hx;simp only[Kind.fp,List.mem_append]at hx;rcases hx with hx|hx
    ·exact HG.out x (by simp only[Kind.fp,List.mem_append];exact Or.inl hx)
    ·rcases z1W c hx with hx|hx
     ·exact HG.out x (by simp only[Kind.fp,List.mem_append];exact Or.inr hx)
     ·have:=y x hx;omega
   have R3:Hid (∀j (hj:j<(qs.set k p').length),k+1≤j→(qs.set k p')[j]=(⟨K none 0 0,[]⟩:USQ)):=fun j hj aw=>by
    rw[List.getElem_set_ne (by omega)];exact HZ.out j (by simpa using hj) (by omega)
   have R4:Hid ((qs.set k p').length=ps.length):=by rw[List.length_set];exact HQ.out
   have R5:Hid (((qs.set k p').take (k+1)).map USQ.e=(ps.take (k+1)).map USQ.e):=X.out p' V;clear N A z hQ I hO HN HG HZ HE HQ X E L d D y T ab hb W ag ah V ad O hP
   go_wp2
   go_roundw
   case rel=>exact⟨k+1,qs.set k p',by omega,by go_num,R4.out,R5.out,R3.out,R.out.1,R1.out,R2.out,R.out.2⟩
   case measure=>simp[intOf];omega
  ·have al:k=ps.length:=by omega
   subst al;have hQ:=HQ.out;have hE:=HE.out;rw[List.take_length,List.take_of_length_le (by omega)]at hE;clear HE HZ
   go_wp2
   go_ret;exact⟨_,qs,rfl,hE,hO,HN.out,HG.out,hb⟩
structure RepQ where
 vd:Value
 done:List TxnQ
 vb:Value
 base:List ItemD
 vt:Value
 tent:List TxnQ
 vu:Value
 undos:List USQ
 vn:Value
 now:List ItemD
structure RepE where
 done:List TxnD
 base:List ItemD
 tent:List TxnD
 undos:List (List UndoD)
 now:List ItemD
def RepQ.e(p:RepQ):RepE:=⟨p.done.map TxnQ.e,p.base,p.tent.map TxnQ.e,p.undos.map USQ.e,p.now⟩
def repK:Kind RepQ where
 ty:=29
 size:=5
 cells p:=[p.vd,p.vb,p.vt,p.vu,p.vn]
 own w p:=txnK.Own w p.vd p.done∧itemK.Own w p.vb p.base∧txnK.Own w p.vt p.tent∧ussK.Own w p.vu p.undos∧itemK.Own w p.vn p.now
 rd w p:=txnK.At w p.vd p.done∧itemK.At w p.vb p.base∧txnK.At w p.vt p.tent∧ussK.At w p.vu p.undos∧itemK.At w p.vn p.now
 foot p:=txnK.fp p.vd p.done++(itemK.fp p.vb p.base++(txnK.fp p.vt p.tent++(ussK.fp p.vu p.undos++itemK.fp p.vn p.now)))
 len _:=rfl
 own_rd h:=⟨h.1.at,h.2.1.at,h.2.2.1.at,h.2.2.2.1.at,h.2.2.2.2.at⟩
 own_out h ho hd:=⟨h.1.out ho (fun k hk=>hd k (Va _ hk)),h.2.1.out ho (fun k hk=>hd k (o _ (Va _ hk))),h.2.2.1.out ho (fun k hk=>hd k (o _ (o _ (Va _ hk)))),h.2.2.2.1.out ho (fun k hk=>hd k (o _ (o _ (o _ (Va _ hk))))),h.2.2.2.2.out ho (fun k hk=>hd k (o _ (o _ (o _ (o _ hk)))))⟩
 own_lt h k hk:=by
  rcases List.mem_append.1 hk with hk|hk
  ·exact h.1.lt k hk
  rcases List.mem_append.1 hk with hk|hk
  ·exact h.2.1.lt k hk
  rcases List.mem_append.1 hk with hk|hk
  ·exact h.2.2.1.lt k hk
  rcases List.mem_append.1 hk with hk|hk
  ·exact h.2.2.2.1.lt k hk
  ·exact h.2.2.2.2.lt k hk
 rd_below h hb:=⟨h.1.below hb,h.2.1.below hb,h.2.2.1.below hb,h.2.2.2.1.below hb,h.2.2.2.2.below hb⟩
def RepQ.n(p:RepQ):Nat:=(p.done.length+nmL TxnQ.n p.done)+p.base.length+(p.tent.length+nmL TxnQ.n p.tent)+(p.undos.length+nmL USQ.n p.undos)+p.now.length
def RepQ.wf(p:RepQ):Prop:=(p.done.length≤9223372036854775807∧∀q∈p.done,TxnQ.wf q)∧p.base.length≤9223372036854775807∧(p.tent.length≤9223372036854775807∧∀q∈p.tent,TxnQ.wf q)∧(p.undos.length≤9223372036854775807∧∀q∈p.undos,USQ.wf q)∧p.now.length≤9223372036854775807
theorem z9H(p:RepQ)(c:Int)(w:World)(h:repK.rd w p)(hn:RepQ.wf p)(h0:0≤c)(h1:c≤1048576):
  Calls Q 80 #[.agg #[p.vd,p.vb,p.vt,p.vu,p.vn],F G c] w fun e w'=>∃r:Int,e=.returned (F G r)∧(¬r<0→(RepQ.n p:Int)+r=c)∧Below w.heap.size w w':=by
 obtain⟨vd,done,vb,base,vt,x,vu,d,vn,y⟩:=p;obtain⟨V,X,Y,Z,aa⟩:txnK.At w vd done∧itemK.At w vb base∧txnK.At w vt x∧ussK.At w vu d∧itemK.At w vn y:=h;obtain⟨z,ab,A,C,ad⟩:(done.length≤9223372036854775807∧∀p∈done,TxnQ.wf p)∧base.length≤9223372036854775807∧(x.length≤9223372036854775807∧∀p∈x,TxnQ.wf p)∧(d.length≤9223372036854775807∧∀p∈d,USQ.wf p)∧y.length≤9223372036854775807:=hn;obtain⟨a0,k0,rfl⟩:=V.shape;obtain⟨a1,k1,rfl⟩:=X.shape;obtain⟨a2,k2,rfl⟩:=Y.shape;obtain⟨a3,k3,rfl⟩:=Z.shape;obtain⟨a4,k4,rfl⟩:=aa.shape;have B:=Blk.new w 61 #[K a0 done.length k0,K a1 base.length k1,K a2 x.length k2,K a3 d.length k3,K a4 y.length k4];have hB:Below w.heap.size w (w.alloc (.cells #[K a0 done.length k0,K a1 base.length k1,K a2 x.length k2,K a3 d.length k3,K a4 y.length k4] 61)):=by go_grown
 dsimp only[RepQ.n];go_enter func80,ntmps80
 go_wp2_with fail
 generalize w.alloc (.cells #[K a0 done.length k0,K a1 base.length k1,K a2 x.length k2,K a3 d.length k3,K a4 y.length k4] 61)=W at*;refine(z6W _ done c W (V.below hB) z.1 z.2 (by omega) (by omega)).mono ?_;rintro e w0 ⟨r0,rfl,ae,D⟩;replace B:=B.below D;replace hB:=hB.trans (D.mono hB.size);clear D;by_cases M:r0<0
 ·go_wp2
  go_ret;exact⟨_,rfl,fun h=>by omega,hB⟩
 have aj:=ae M;clear ae;have p1:=B.cell 1 _ rfl
 go_wp2_with fail
 clear p1;refine(z8c _ base r0 w0 (X.below hB) ab (by omega) (by omega)).mono ?_;rintro e w1 ⟨r1,rfl,af,E⟩;replace B:=B.below E;replace hB:=hB.trans (E.mono hB.size);clear E;by_cases N:r1<0
 ·go_wp2
  go_ret;exact⟨_,rfl,fun h=>by omega,hB⟩
 have ak:=af N;clear af;have p2:=B.cell 2 _ rfl
 go_wp2_with fail
 clear p2;refine(z6W _ x r1 w1 (Y.below hB) A.1 A.2 (by omega) (by omega)).mono ?_;rintro e w2 ⟨r2,rfl,ag,I⟩;replace B:=B.below I;replace hB:=hB.trans (I.mono hB.size);clear I;by_cases O:r2<0
 ·go_wp2
  go_ret;exact⟨_,rfl,fun h=>by omega,hB⟩
 have al:=ag O;clear ag;have p3:=B.cell 3 _ rfl
 go_wp2_with fail
 clear p3;refine(q5r _ d r2 w2 (Z.below hB) C.1 C.2 (by omega) (by omega)).mono ?_;rintro e w3 ⟨r3,rfl,ah,J⟩;replace B:=B.below J;replace hB:=hB.trans (J.mono hB.size);clear J;by_cases T:r3<0
 ·go_wp2
  go_ret;exact⟨_,rfl,fun h=>by omega,hB⟩
 have am:=ah T;clear ah;have p4:=B.cell 4 _ rfl
 go_wp2_with fail
 clear p4;refine(z8c _ y r3 w3 (aa.below hB) ad (by omega) (by omega)).mono ?_;rintro e w4 ⟨r4,rfl,ai,L⟩;replace B:=B.below L;replace hB:=hB.trans (L.mono hB.size);clear L;by_cases U:r4<0
 ·go_wp2
  go_ret;exact⟨_,rfl,fun h=>by omega,hB⟩
 have an:=ai U;clear ai
 go_wp2
 go_ret;exact⟨_,rfl,fun _=>by omega,hB⟩
theorem z9I(p p':RepQ)(w:World)(h:repK.rd w p)(h':repK.rd w p')(he:p.e=p'.e)(hl:RepQ.n p≤1048576):
  Calls Q 84 #[.agg #[p.vd,p.vb,p.vt,p.vu,p.vn],.agg #[p'.vd,p'.vb,p'.vt,p'.vu,p'.vn]] w fun e w'=>e=.returned (.bool true)∧Below w.heap.size w w':=by
 obtain⟨vd,done,vb,base,vt,A,vu,d,vn,z⟩:=p;obtain⟨an,x,am,M,ap,y,aq,c,ao,al⟩:=p';simp only[RepQ.e,RepE.mk.injEq]at he;obtain⟨N,ar,O,T,au⟩:=he;dsimp only[RepQ.n]at hl;obtain⟨aa,ab,ad,ae,af⟩:txnK.At w vd done∧itemK.At w vb base∧txnK.At w vt A∧ussK.At w vu d∧itemK.At w vn z:=h;obtain⟨U,V,X,Y,Z⟩:txnK.At w an x∧itemK.At w am M∧txnK.At w ap y∧ussK.At w aq c∧itemK.At w ao al:=h';subst ar;subst au;have ag:=fun w h1 h2=>z6X vd an done x w h1 h2 N (by omega)
 have ah:=fun w h1 h2=>z8e vb am base w h1 h2 (by omega)
 have ai:=fun w h1 h2=>z6X vt ap A y w h1 h2 O (by omega)
 have aj:=fun w h1 h2=>q5s vu aq d c w h1 h2 T (by omega)
 have ak:=fun w h1 h2=>z8e vn ao z w h1 h2 (by omega)
 obtain⟨a0,k0,rfl⟩:=aa.shape;obtain⟨b0,m0,rfl⟩:=U.shape;obtain⟨a1,k1,rfl⟩:=ab.shape;obtain⟨b1,m1,rfl⟩:=V.shape;obtain⟨a2,k2,rfl⟩:=ad.shape;obtain⟨b2,m2,rfl⟩:=X.shape;obtain⟨a3,k3,rfl⟩:=ae.shape;obtain⟨b3,m3,rfl⟩:=Y.shape;obtain⟨a4,k4,rfl⟩:=af.shape;obtain⟨b4,m4,rfl⟩:=Z.shape;have B:=(Blk.new w 29 #[K a0 done.length k0,K a1 base.length k1,K a2 A.length k2,K a3 d.length k3,K a4 z.length k4]).below (w':=(w.alloc (.cells #[K a0 done.length k0,K a1 base.length k1,K a2 A.length k2,K a3 d.length k3,K a4 z.length k4] 29)).alloc (.cells #[K b0 x.length m0,K b1 base.length m1,K b2 y.length m2,K b3 c.length m3,K b4 z.length m4] 29)) (by go_grown);have C:=Blk.new (w.alloc (.cells #[K a0 done.length k0,K a1 base.length k1,K a2 A.length k2,K a3 d.length k3,K a4 z.length k4] 29)) 29 #[K b0 x.length m0,K b1 base.length m1,K b2 y.length m2,K b3 c.length m3,K b4 z.length m4];have hB:Below w.heap.size w ((w.alloc (.cells #[K a0 done.length k0,K a1 base.length k1,K a2 A.length k2,K a3 d.length k3,K a4 z.length k4] 29)).alloc (.cells #[K b0 x.length m0,K b1 base.length m1,K b2 y.length m2,K b3 c.length m3,K b4 z.length m4] 29)):=by go_grown
 rw[World.size_alloc]at C;clear N O T;go_enter func84,ntmps84
 go_wp2_with fail
 generalize (w.alloc (.cells #[K a0 done.length k0,K a1 base.length k1,K a2 A.length k2,K a3 d.length k3,K a4 z.length k4] 29)).alloc (.cells #[K b0 x.length m0,K b1 base.length m1,K b2 y.length m2,K b3 c.length m3,K b4 z.length m4] 29)=W at*;refine(ag W (aa.below hB) (U.below hB)).mono ?_;rintro e w0 ⟨rfl,D⟩;replace B:=B.below D;replace C:=C.below D;replace hB:=hB.trans (D.mono hB.size);clear D ag;have p1:=B.cell 1 _ rfl;have q1:=C.cell 1 _ rfl
 go_wp2_with fail
 clear p1 q1;refine(ah w0 (ab.below hB) (V.below hB)).mono ?_;rintro e w1 ⟨rfl,E⟩;replace B:=B.below E;replace C:=C.below E;replace hB:=hB.trans (E.mono hB.size);clear E ah;have p2:=B.cell 2 _ rfl;have q2:=C.cell 2 _ rfl
 go_wp2_with fail
 clear p2 q2;refine(ai w1 (ad.below hB) (X.below hB)).mono ?_;rintro e w2 ⟨rfl,I⟩;replace B:=B.below I;replace C:=C.below I;replace hB:=hB.trans (I.mono hB.size);clear I ai;have p3:=B.cell 3 _ rfl;have q3:=C.cell 3 _ rfl
 go_wp2_with fail
 clear p3 q3;refine(aj w2 (ae.below hB) (Y.below hB)).mono ?_;rintro e w3 ⟨rfl,J⟩;replace B:=B.below J;replace C:=C.below J;replace hB:=hB.trans (J.mono hB.size);clear J aj;have p4:=B.cell 4 _ rfl;have q4:=C.cell 4 _ rfl
 go_wp2_with fail
 clear p4 q4;refine(ak w3 (af.below hB) (Z.below hB)).mono ?_;rintro e w4 ⟨rfl,L⟩;replace B:=B.below L;replace C:=C.below L;replace hB:=hB.trans (L.mono hB.size);clear L ak
 go_wp2
 go_ret;exact⟨rfl,hB⟩
theorem z3l{A B:List Nat}{m:Nat}(hA:∀k∈A,k<m)(hB:∀k∈B,m≤k):∀a∈A,∀b∈B,a≠b:=fun a ha b hb e=>by
 have:=hA a ha;have:=hB b hb;omega
theorem z9J(p:RepQ)(w:World)(h:repK.rd w p)(hl:RepQ.n p≤1048576):
  Calls Q 82 #[.agg #[p.vd,p.vb,p.vt,p.vu,p.vn]] w fun e w'=>∃p':RepQ,e=.returned (.agg #[p'.vd,p'.vb,p'.vt,p'.vu,p'.vn])∧p'.e=p.e∧repK.own w' p'∧(repK.foot p').Nodup∧(∀k∈repK.foot p',w.heap.size≤k)∧Below w.heap.size w w':=by
 obtain⟨vd,done,vb,base,vt,E,vu,c,vn,y⟩:=p;dsimp only[RepQ.n]at hl;obtain⟨N,O,T,U,V⟩:txnK.At w vd done∧itemK.At w vb base∧txnK.At w vt E∧ussK.At w vu c∧itemK.At w vn y:=h;have X:=fun w h1=>z6Y vd done w h1 (by omega)
 have Y:=fun w h1=>z8d vb base w h1 (by omega)
 have Z:=fun w h1=>z6Y vt E w h1 (by omega)
 have aa:=fun w h1=>q5t vu c w h1 (by omega)
 have ab:=fun w h1=>z8d vn y w h1 (by omega)
 obtain⟨a0,k0,rfl⟩:=N.shape;obtain⟨a1,k1,rfl⟩:=O.shape;obtain⟨a2,k2,rfl⟩:=T.shape;obtain⟨a3,k3,rfl⟩:=U.shape;obtain⟨a4,k4,rfl⟩:=V.shape;have B:=(Blk.new w 61 #[K a0 done.length k0,K a1 base.length k1,K a2 E.length k2,K a3 c.length k3,K a4 y.length k4]).below (w':=((w.alloc (.cells #[K a0 done.length k0,K a1 base.length k1,K a2 E.length k2,K a3 c.length k3,K a4 y.length k4] 61)).alloc (.cells #[K none 0 0,K none 0 0,K none 0 0,K none 0 0,K none 0 0] 29)).alloc (.cells #[K none 0 0,K none 0 0,K none 0 0,K none 0 0,K none 0 0] 29)) (by go_grown);have C:=(Blk.new (w.alloc (.cells #[K a0 done.length k0,K a1 base.length k1,K a2 E.length k2,K a3 c.length k3,K a4 y.length k4] 61)) 29 #[K none 0 0,K none 0 0,K none 0 0,K none 0 0,K none 0 0]).below (w':=((w.alloc (.cells #[K a0 done.length k0,K a1 base.length k1,K a2 E.length k2,K a3 c.length k3,K a4 y.length k4] 61)).alloc (.cells #[K none 0 0,K none 0 0,K none 0 0,K none 0 0,K none 0 0] 29)).alloc (.cells #[K none 0 0,K none 0 0,K none 0 0,K none 0 0,K none 0 0] 29)) (by go_grown);have D:=Blk.new ((w.alloc (.cells #[K a0 done.length k0,K a1 base.length k1,K a2 E.length k2,K a3 c.length k3,K a4 y.length k4] 61)).alloc (.cells #[K none 0 0,K none 0 0,K none 0 0,K none 0 0,K none 0 0] 29)) 29 #[K none 0 0,K none 0 0,K none 0 0,K none 0 0,K none 0 0];have hB:Below w.heap.size w (((w.alloc (.cells #[K a0 done.length k0,K a1 base.length k1,K a2 E.length k2,K a3 c.length k3,K a4 y.length k4] 61)).alloc (.cells #[K none 0 0,K none 0 0,K none 0 0,K none 0 0,K none 0 0] 29)).alloc (.cells #[K none 0 0,K none 0 0,K none 0 0,K none 0 0,K none 0 0] 29)):=by go_grown
 simp only[World.size_alloc]at C D;have hS:w.heap.size+3≤(((w.alloc (.cells #[K a0 done.length k0,K a1 base.length k1,K a2 E.length k2,K a3 c.length k3,K a4 y.length k4] 61)).alloc (.cells #[K none 0 0,K none 0 0,K none 0 0,K none 0 0,K none 0 0] 29)).alloc (.cells #[K none 0 0,K none 0 0,K none 0 0,K none 0 0,K none 0 0] 29)).heap.size:=by simp only[World.size_alloc];omega
 go_enter func82,ntmps82
 go_wp2_with fail
 generalize ((w.alloc (.cells #[K a0 done.length k0,K a1 base.length k1,K a2 E.length k2,K a3 c.length k3,K a4 y.length k4] 61)).alloc (.cells #[K none 0 0,K none 0 0,K none 0 0,K none 0 0,K none 0 0] 29)).alloc (.cells #[K none 0 0,K none 0 0,K none 0 0,K none 0 0,K none 0 0] 29)=W at*;refine(X W (N.below hB)).mono ?_;rintro e y0 ⟨v0,q0,rfl,E0,O0,N0,G0,hb⟩;replace B:=B.below hb;replace C:=C.below hb;replace D:=D.below hb;replace hB:=hB.trans (hb.mono hB.size);have s0:=hb.size;obtain⟨x0,z0,rfl⟩:=O0.shape;clear hb X;have p1:=B.cell 1 _ rfl;have d0:=D.cell 0 _ rfl;have f0:=D.frozen 0
 go_wp2_with fail
 clear p1 d0 f0;have U0:=(Out.refl [w.heap.size+1,w.heap.size+1+1] y0).set (b:=w.heap.size+1+1) (j:=0) (u:=K x0 q0.length z0) (by simp);replace D:=D.set 0 (K x0 q0.length z0);replace B:=B.other (b':=w.heap.size+1+1) (by omega) 0 (K x0 q0.length z0);replace C:=C.other (b':=w.heap.size+1+1) (by omega) 0 (K x0 q0.length z0);replace hB:=hB.setCell (p:=⟨w.heap.size+1+1,0,none⟩) (by show w.heap.size≤w.heap.size+1+1;omega) (K x0 q0.length z0);simp only[pjE]at D;have t0:=U0.size;generalize y0.setCell ⟨w.heap.size+1+1,0,none⟩ (K x0 q0.length z0)=V0 at*;refine(Y V0 (O.below hB)).mono ?_;rintro e y1 ⟨v1,rfl,O1,N1,G1,hb⟩;replace U0:=U0.call hb;replace B:=B.below hb;replace C:=C.below hb;replace D:=D.below hb;replace hB:=hB.trans (hb.mono hB.size);have s1:=hb.size;obtain⟨x1,z1,rfl⟩:=O1.shape;clear hb Y;have p2:=B.cell 2 _ rfl;have d1:=D.cell 1 _ rfl;have f1:=D.frozen 1
 go_wp2_with fail
 clear p2 d1 f1;have U1:=(Out.refl [w.heap.size+1,w.heap.size+1+1] y1).set (b:=w.heap.size+1+1) (j:=1) (u:=K x1 base.length z1) (by simp);replace U0:=U0.set (b:=w.heap.size+1+1) (j:=1) (u:=K x1 base.length z1) (by simp);replace D:=D.set 1 (K x1 base.length z1);replace B:=B.other (b':=w.heap.size+1+1) (by omega) 1 (K x1 base.length z1);replace C:=C.other (b':=w.heap.size+1+1) (by omega) 1 (K x1 base.length z1);replace hB:=hB.setCell (p:=⟨w.heap.size+1+1,1,none⟩) (by show w.heap.size≤w.heap.size+1+1;omega) (K x1 base.length z1);simp only[pjE]at D;have t1:=U1.size;generalize y1.setCell ⟨w.heap.size+1+1,1,none⟩ (K x1 base.length z1)=V1 at*;refine(Z V1 (T.below hB)).mono ?_;rintro e y2 ⟨v2,q2,rfl,E2,O2,N2,G2,hb⟩;replace U0:=U0.call hb;replace U1:=U1.call hb;replace B:=B.below hb;replace C:=C.below hb;replace D:=D.below hb;replace hB:=hB.trans (hb.mono hB.size);have s2:=hb.size;obtain⟨x2,z2,rfl⟩:=O2.shape;clear hb Z;have p3:=B.cell 3 _ rfl;have d2:=D.cell 2 _ rfl;have f2:=D.frozen 2
 go_wp2_with fail
 clear p3 d2 f2;have U2:=(Out.refl [w.heap.size+1,w.heap.size+1+1] y2).set (b:=w.heap.size+1+1) (j:=2) (u:=K x2 q2.length z2) (by simp);replace U0:=U0.set (b:=w.heap.size+1+1) (j:=2) (u:=K x2 q2.length z2) (by simp);replace U1:=U1.set (b:=w.heap.size+1+1) (j:=2) (u:=K x2 q2.length z2) (by simp);replace D:=D.set 2 (K x2 q2.length z2);replace B:=B.other (b':=w.heap.size+1+1) (by omega) 2 (K x2 q2.length z2);replace C:=C.other (b':=w.heap.size+1+1) (by omega) 2 (K x2 q2.length z2);replace hB:=hB.setCell (p:=⟨w.heap.size+1+1,2,none⟩) (by show w.heap.size≤w.heap.size+1+1;omega) (K x2 q2.length z2);simp only[pjE]at D;have t2:=U2.size;generalize y2.setCell ⟨w.heap.size+1+1,2,none⟩ (K x2 q2.length z2)=V2 at*;refine(aa V2 (U.below hB)).mono ?_;rintro e y3 ⟨v3,q3,rfl,E3,O3,N3,G3,hb⟩;replace U0:=U0.call hb;replace U1:=U1.call hb;replace U2:=U2.call hb;replace B:=B.below hb;replace C:=C.below hb;replace D:=D.below hb;replace hB:=hB.trans (hb.mono hB.size);have s3:=hb.size;obtain⟨x3,z3,rfl⟩:=O3.shape;clear hb aa;have p4:=B.cell 4 _ rfl;have d3:=D.cell 3 _ rfl;have f3:=D.frozen 3
 go_wp2_with fail
 clear p4 d3 f3;have U3:=(Out.refl [w.heap.size+1,w.heap.size+1+1] y3).set (b:=w.heap.size+1+1) (j:=3) (u:=K x3 q3.length z3) (by simp);replace U0:=U0.set (b:=w.heap.size+1+1) (j:=3) (u:=K x3 q3.length z3) (by simp);replace U1:=U1.set (b:=w.heap.size+1+1) (j:=3) (u:=K x3 q3.length z3) (by simp);replace U2:=U2.set (b:=w.heap.size+1+1) (j:=3) (u:=K x3 q3.length z3) (by simp);replace D:=D.set 3 (K x3 q3.length z3);replace B:=B.other (b':=w.heap.size+1+1) (by omega) 3 (K x3 q3.length z3);replace C:=C.other (b':=w.heap.size+1+1) (by omega) 3 (K x3 q3.length z3);replace hB:=hB.setCell (p:=⟨w.heap.size+1+1,3,none⟩) (by show w.heap.size≤w.heap.size+1+1;omega) (K x3 q3.length z3);simp only[pjE]at D;have t3:=U3.size;generalize y3.setCell ⟨w.heap.size+1+1,3,none⟩ (K x3 q3.length z3)=V3 at*;refine(ab V3 (V.below hB)).mono ?_;rintro e y4 ⟨v4,rfl,O4,N4,G4,hb⟩;replace U0:=U0.call hb;replace U1:=U1.call hb;replace U2:=U2.call hb;replace U3:=U3.call hb;replace B:=B.below hb;replace C:=C.below hb;replace D:=D.below hb;replace hB:=hB.trans (hb.mono hB.size);have s4:=hb.size;obtain⟨x4,z4,rfl⟩:=O4.shape;clear hb ab;clear B;have d0:=D.cell 0 _ rfl;have f0:=D.frozen 0;have c0:=C.cell 0 _ rfl;have g0:=C.frozen 0;have d1:=D.cell 1 _ rfl;have f1:=D.frozen 1;have c1:=C.cell 1 _ rfl;have g1:=C.frozen 1;have d2:=D.cell 2 _ rfl;have f2:=D.frozen 2;have c2:=C.cell 2 _ rfl;have g2:=C.frozen 2;have d3:=D.cell 3 _ rfl;have f3:=D.frozen 3;have c3:=C.cell 3 _ rfl;have g3:=C.frozen 3;have d4:=D.cell 4 _ rfl;have f4:=D.frozen 4;have c4:=C.cell 4 _ rfl;have g4:=C.frozen 4;have R:Hid (∀j u j' u' L M I J z A d x,repK.own ((((((y4.setCell ⟨w.heap.size+1+1,j,none⟩ u).setCell ⟨w.heap.size+1,j',none⟩ u').setCell ⟨w.heap.size+1,L,none⟩ M).setCell ⟨w.heap.size+1,I,none⟩ J).setCell ⟨w.heap.size+1,z,none⟩ A).setCell ⟨w.heap.size+1,d,none⟩ x) ⟨K x0 q0.length z0,q0,K x1 base.length z1,base,K x2 q2.length z2,q2,K x3 q3.length z3,q3,K x4 y.length z4,y⟩∧Below w.heap.size w ((((((y4.setCell ⟨w.heap.size+1+1,j,none⟩ u).setCell ⟨w.heap.size+1,j',none⟩ u').setCell ⟨w.heap.size+1,L,none⟩ M).setCell ⟨w.heap.size+1,I,none⟩ J).setCell ⟨w.heap.size+1,z,none⟩ A).setCell ⟨w.heap.size+1,d,none⟩ x)):=by
  intro j u j' u' L M I J z A d x;have X0:=((((((U0.set (b:=w.heap.size+1+1) (j:=j) (u:=u) (by simp)).set (b:=w.heap.size+1) (j:=j') (u:=u') (by simp)).set (b:=w.heap.size+1) (j:=L) (u:=M) (by simp)).set (b:=w.heap.size+1) (j:=I) (u:=J) (by simp)).set (b:=w.heap.size+1) (j:=z) (u:=A) (by simp)).set (b:=w.heap.size+1) (j:=d) (u:=x) (by simp))
  have X1:=((((((U1.set (b:=w.heap.size+1+1) (j:=j) (u:=u) (by simp)).set (b:=w.heap.size+1) (j:=j') (u:=u') (by simp)).set (b:=w.heap.size+1) (j:=L) (u:=M) (by simp)).set (b:=w.heap.size+1) (j:=I) (u:=J) (by simp)).set (b:=w.heap.size+1) (j:=z) (u:=A) (by simp)).set (b:=w.heap.size+1) (j:=d) (u:=x) (by simp))
  have X2:=((((((U2.set (b:=w.heap.size+1+1) (j:=j) (u:=u) (by simp)).set (b:=w.heap.size+1) (j:=j') (u:=u') (by simp)).set (b:=w.heap.size+1) (j:=L) (u:=M) (by simp)).set (b:=w.heap.size+1) (j:=I) (u:=J) (by simp)).set (b:=w.heap.size+1) (j:=z) (u:=A) (by simp)).set (b:=w.heap.size+1) (j:=d) (u:=x) (by simp))
  have X3:=((((((U3.set (b:=w.heap.size+1+1) (j:=j) (u:=u) (by simp)).set (b:=w.heap.size+1) (j:=j') (u:=u') (by simp)).set (b:=w.heap.size+1) (j:=L) (u:=M) (by simp)).set (b:=w.heap.size+1) (j:=I) (u:=J) (by simp)).set (b:=w.heap.size+1) (j:=z) (u:=A) (by simp)).set (b:=w.heap.size+1) (j:=d) (u:=x) (by simp))
  have X4:=(((((((Out.refl [w.heap.size+1,w.heap.size+1+1] y4).set (b:=w.heap.size+1+1) (j:=j) (u:=u) (by simp)).set (b:=w.heap.size+1) (j:=j') (u:=u') (by simp)).set (b:=w.heap.size+1) (j:=L) (u:=M) (by simp)).set (b:=w.heap.size+1) (j:=I) (u:=J) (by simp)).set (b:=w.heap.size+1) (j:=z) (u:=A) (by simp)).set (b:=w.heap.size+1) (j:=d) (u:=x) (by simp))
  refine⟨⟨O0.out X0 (fun k hk=>?_),O1.out X1 (fun k hk=>?_),O2.out X2 (fun k hk=>?_),O3.out X3 (fun k hk=>?_),O4.out X4 (fun k hk=>?_)⟩,?_⟩
  ·have:=G0 k hk;simp only[List.mem_cons,List.not_mem_nil,or_false];omega
  ·have:=G1 k hk;simp only[List.mem_cons,List.not_mem_nil,or_false];omega
  ·have:=G2 k hk;simp only[List.mem_cons,List.not_mem_nil,or_false];omega
  ·have:=G3 k hk;simp only[List.mem_cons,List.not_mem_nil,or_false];omega
  ·have:=G4 k hk;simp only[List.mem_cons,List.not_mem_nil,or_false];omega
  ·exact((((((hB.setCell (p:=⟨w.heap.size+1+1,j,none⟩) (by show w.heap.size≤w.heap.size+1+1;omega) u).setCell (p:=⟨w.heap.size+1,j',none⟩) (by show w.heap.size≤w.heap.size+1;omega) u').setCell (p:=⟨w.heap.size+1,L,none⟩) (by show w.heap.size≤w.heap.size+1;omega) M).setCell (p:=⟨w.heap.size+1,I,none⟩) (by show w.heap.size≤w.heap.size+1;omega) J).setCell (p:=⟨w.heap.size+1,z,none⟩) (by show w.heap.size≤w.heap.size+1;omega) A).setCell (p:=⟨w.heap.size+1,d,none⟩) (by show w.heap.size≤w.heap.size+1;omega) x)
 have R1:Hid ((repK.foot ⟨K x0 q0.length z0,q0,K x1 base.length z1,base,K x2 q2.length z2,q2,K x3 q3.length z3,q3,K x4 y.length z4,y⟩).Nodup∧(∀k∈repK.foot ⟨K x0 q0.length z0,q0,K x1 base.length z1,base,K x2 q2.length z2,q2,K x3 q3.length z3,q3,K x4 y.length z4,y⟩,w.heap.size≤k)):=by
  have L0:=O0.lt;have L1:=O1.lt;have L2:=O2.lt;have L3:=O3.lt;have L4:=O4.lt;have T0:=U0.size;have T1:=U1.size;have T2:=U2.size;have T3:=U3.size;refine⟨?_,?_⟩
  ·show List.Nodup (_++_);exact List.nodup_append.2 ⟨N0,List.nodup_append.2 ⟨N1,List.nodup_append.2 ⟨N2,List.nodup_append.2 ⟨N3,N4,z3l (m:=(V3).heap.size) (fun k hk=>by have:=L3 k hk;omega) (fun k hk=>by have:=G4 k hk;omega)⟩,z3l (m:=(V2).heap.size) (fun k hk=>by have:=L2 k hk;omega) (fun k hk=>by rcases List.mem_append.1 hk with hk|hk<;>first|(have:=G3 k hk;omega)|(have:=G4 k hk;omega))⟩,z3l (m:=(V1).heap.size) (fun k hk=>by have:=L1 k hk;omega) (fun k hk=>by rcases List.mem_append.1 hk with hk|hk<;>first|(have:=G2 k hk;omega)|(rcases List.mem_append.1 hk with hk|hk<;>first|(have:=G3 k hk;omega)|(have:=G4 k hk;omega)))⟩,z3l (m:=(V0).heap.size) (fun k hk=>by have:=L0 k hk;omega) (fun k hk=>by rcases List.mem_append.1 hk with hk|hk<;>first|(have:=G1 k hk;omega)|(rcases List.mem_append.1 hk with hk|hk<;>first|(have:=G2 k hk;omega)|(rcases List.mem_append.1 hk with hk|hk<;>first|(have:=G3 k hk;omega)|(have:=G4 k hk;omega))))⟩
  ·exact(fun k hk=>by rcases List.mem_append.1 hk with hk|hk<;>first|(have:=G0 k hk;omega)|(rcases List.mem_append.1 hk with hk|hk<;>first|(have:=G1 k hk;omega)|(rcases List.mem_append.1 hk with hk|hk<;>first|(have:=G2 k hk;omega)|(rcases List.mem_append.1 hk with hk|hk<;>first|(have:=G3 k hk;omega)|(have:=G4 k hk;omega)))))
 have R2:Hid (RepQ.e ⟨K x0 q0.length z0,q0,K x1 base.length z1,base,K x2 q2.length z2,q2,K x3 q3.length z3,q3,K x4 y.length z4,y⟩=RepQ.e ⟨K a0 done.length k0,done,K a1 base.length k1,base,K a2 E.length k2,E,K a3 c.length k3,c,K a4 y.length k4,y⟩):=show _=_ by simp only[RepQ.e,E0,E2,E3]
 clear O0 N0 G0 O1 N1 G1 O2 N2 G2 O3 N3 G3 O4 N4 G4 U0 U1 U2 U3 E0 E2 E3 hB C D N O T U V
 go_wp2
 exact bodyPost_ret (v:=.agg #[K x0 q0.length z0,K x1 base.length z1,K x2 q2.length z2,K x3 q3.length z3,K x4 y.length z4]) (by simp[results,results82,go_sem,c0,c1,c2,c3,c4]) rfl ⟨⟨K x0 q0.length z0,q0,K x1 base.length z1,base,K x2 q2.length z2,q2,K x3 q3.length z3,q3,K x4 y.length z4,y⟩,rfl,R2.out,(R.out _ _ _ _ _ _ _ _ _ _ _ _).1,R1.out.1,R1.out.2,(R.out _ _ _ _ _ _ _ _ _ _ _ _).2⟩
def z1U(x y:UndoD):Bool:=(x.key==y.key) && ((x.was==y.was) && (x.val==y.val))
def sameUs:List UndoD→List UndoD→Bool
 |[],[]=>true
 |x::r,y::s=>z1U x y && sameUs r s
 |_,_=>false
theorem z4C{α:Type}{f:α→α→Bool}{g:List α→List α→Bool}(h0:g [] []=true)(h1:∀x r y s,g (x::r) (y::s)=(f x y && g r s))(h2:∀x r,g (x::r) []=false)(h3:∀y s,g [] (y::s)=false):
  ∀a b,a.length≠b.length→g a b=false:=by
 intro a;induction a with
 |nil=>intro b h;cases b with|nil=>simp at h|cons y s=>exact h3 y s
 |cons x r ih=>intro b h;cases b with|nil=>exact h2 x r|cons y s=>rw[h1,ih s (by simpa using h)];simp
theorem z4D{α:Type}{f:α→α→Bool}{g:List α→List α→Bool}(d:α)(h1:∀x r y s,g (x::r) (y::s)=(f x y && g r s)):
  ∀a b k,a.length=b.length→k<a.length→f (a.getD k d) (b.getD k d)=false→g a b=false:=by
 intro a;induction a with
 |nil=>intro b k _ h;simp at h
 |cons x r ih=>
  intro b k hl hk hf
  cases b with
  |nil=>simp at hl
  |cons y s=>
   rw[h1]
   cases k with
   |zero=>simp[List.getD]at hf;simp[hf]
   |succ k=>rw[ih s k (by simpa using hl) (by simpa using hk) (by simpa[List.getD]using hf)];simp
theorem z4E{α:Type}{f:α→α→Bool}{g:List α→List α→Bool}(d:α)(h0:g [] []=true)(h1:∀x r y s,g (x::r) (y::s)=(f x y && g r s)):
  ∀a b,a.length=b.length→(∀k,k<a.length→f (a.getD k d) (b.getD k d)=true)→g a b=true:=by
 intro a;induction a with
 |nil=>intro b hl _;cases b with|nil=>exact h0|cons y s=>simp at hl
 |cons x r ih=>
  intro b hl hf
  cases b with
  |nil=>simp at hl
  |cons y s=>
   rw[h1,ih s (by simpa using hl) (fun k hk=>by simpa[List.getD]using hf (k+1) (by simpa using hk))];have:=hf 0 (by simp);simp[List.getD]at this;simp[this]
theorem z9K(xs:List UndoD):sameUs xs xs=true:=by
 induction xs with
 |nil=>rfl
 |cons x r ih=>simp[sameUs,z1U,ih]
theorem z2T(x0:Int)(x1:Bool)(x2 y0:Int)(y1:Bool)(y2:Int)(w:World):(binOp .neq 235 (.agg #[F G x0,.bool x1,F G x2]) (.agg #[F G y0,.bool y1,F G y2])).run Q w=.ok (.bool (!z1U ⟨x0,x1,x2⟩ ⟨y0,y1,y2⟩)) w:=by
 rw[run_neq_struct,run_equalIn_struct (P:=Q) w 9999 235 _ _ (by kernel_rfl) (by kernel_rfl)];have c1:Q.cellsOf 2=1:=by kernel_rfl
 have c2:Q.cellsOf 4=1:=by kernel_rfl
 cases h0:(x0==y0)<;>cases h1:(x1==y1)<;>cases h2:(x2==y2)<;>simp[Program.fieldsOf,Tryz.underlying235,Op.eqFields,go_sem,Tryz.underlying2,Tryz.underlying4,h0,h1,h2,z1U,c1,c2]
theorem q09(a a':Option Addr)(cap d:Nat)(xs ys:List UndoD)(w:World)(h:UndoRow w a xs)(h':UndoRow w a' ys)(hl:xs.length≤1048576)(U:ys.length≤1048576):
  Calls Q 180 #[K a xs.length cap,K a' ys.length d] w fun e w'=>e=.returned (.bool (sameUs xs ys))∧Below w.heap.size w w':=by
 by_cases c:xs.length=ys.length
 case neg=>
  have E:sameUs xs ys=false:=z4C (f:=z1U) rfl (fun _ _ _ _=>rfl) (fun _ _=>rfl) (fun _ _=>rfl) xs ys c;rw[E];have hd:((xs.length:Int) !=(ys.length:Int))=true:=by simp;omega
  go_enter func180,ntmps180
  go_wp2
  go_ret;exact⟨rfl,Below.refl _ _⟩
 case pos=>
  have hd:((xs.length:Int) !=(ys.length:Int))=false:=by simp[c]
  have HL:Hid (xs.length=ys.length):=c;clear c;go_enter func180,ntmps180
  go_wp2
  go_loopw[13] (fun i wr=>∃k m:Nat,k≤xs.length∧i=F G k∧wr=w.drewN m∧Hid (∀j,j<k→z1U (xs.getD j z0k) (ys.getD j z0k)=true)) (fun i _=>xs.length-(intOf i).toNat)
  case atStart=>exact⟨0,0,t _,rfl,rfl,fun j hj=>absurd hj (Nat.not_lt_zero _)⟩
  case round=>
   obtain⟨k,m,hk,rfl,rfl,HA⟩:=hrel;by_cases J:k<xs.length
   ·have L:k<ys.length:=by have:=HL.out;omega
    obtain⟨b,V,rfl,T,x,y,A⟩:=h.at k J;obtain⟨b',O,rfl,N,C,D,I⟩:=h'.at k L
    cases hs:z1U (xs.getD k z0k) (ys.getD k z0k)
    case false=>
     have E:Hid (sameUs xs ys=false):=z4D (f:=z1U) z0k (fun _ _ _ _=>rfl) xs ys k HL.out J hs;have hr:=z2T (xs.getD k z0k).key (xs.getD k z0k).was (xs.getD k z0k).val (ys.getD k z0k).key (ys.getD k z0k).was (ys.getD k z0k).val;rw[show z1U ⟨(xs.getD k z0k).key,(xs.getD k z0k).was,(xs.getD k z0k).val⟩ ⟨(ys.getD k z0k).key,(ys.getD k z0k).was,(ys.getD k z0k).val⟩=false from hs,Bool.not_false]at hr;clear HA hs;generalize xs.getD k z0k=z at x y A hr;generalize ys.getD k z0k=z' at C D I hr
     go_wp2
     go_quiet (fail)
     go_wp2
     go_ret;rw[E.out];exact⟨rfl,(Below.refl _ _).trans ⟨rfl,rfl,rfl,H _,fun _ _=>rfl⟩⟩
    case true=>
     have HB:Hid (∀j,j<k+1→z1U (xs.getD j z0k) (ys.getD j z0k)=true):=by
      intro j hj;by_cases M:j=k
      ·subst M;exact hs
      ·exact HA.out j (by omega)
     have hr:=z2T (xs.getD k z0k).key (xs.getD k z0k).was (xs.getD k z0k).val (ys.getD k z0k).key (ys.getD k z0k).was (ys.getD k z0k).val;rw[show z1U ⟨(xs.getD k z0k).key,(xs.getD k z0k).was,(xs.getD k z0k).val⟩ ⟨(ys.getD k z0k).key,(ys.getD k z0k).was,(ys.getD k z0k).val⟩=true from hs,Bool.not_true]at hr;clear HA hs;generalize xs.getD k z0k=z at x y A hr;generalize ys.getD k z0k=z' at C D I hr
     go_wp2
     go_quiet (fail)
     go_wp2
     go_roundw
     case rel=>exact⟨k+1,_,by omega,by go_num,rfl,HB⟩
     case measure=>simp[intOf];omega
   ·have E:Hid (sameUs xs ys=true):=z4E (f:=z1U) z0k rfl (fun _ _ _ _=>rfl) xs ys HL.out (fun j hj=>HA.out j (by omega));clear HA
    go_wp2
    go_ret;rw[E.out];exact⟨rfl,(Below.refl _ _).trans ⟨rfl,rfl,rfl,H _,fun _ _=>rfl⟩⟩
theorem z4L(a a':Option Addr)(cap d:Nat)(xs ys:List UndoD)(w:World)(h:UndoRow w a xs)(h':UndoRow w a' ys)(hl:xs.length≤1048576)(U:ys.length≤1048576):
  Calls Q 266 #[K a xs.length cap,K a' ys.length d] w fun e w'=>e=.returned (.bool (sameUs xs ys))∧Below w.heap.size w w':=by
 by_cases c:xs.length=ys.length
 case neg=>
  have E:sameUs xs ys=false:=z4C (f:=z1U) rfl (fun _ _ _ _=>rfl) (fun _ _=>rfl) (fun _ _=>rfl) xs ys c;rw[E];have hd:((xs.length:Int) !=(ys.length:Int))=true:=by simp;omega
  go_enter func266,ntmps266
  go_wp2
  go_ret;exact⟨rfl,Below.refl _ _⟩
 case pos=>
  have hd:((xs.length:Int) !=(ys.length:Int))=false:=by simp[c]
  have HL:Hid (xs.length=ys.length):=c;clear c;go_enter func266,ntmps266
  go_wp2
  go_loopw[5] (fun i wr=>∃k m:Nat,k≤xs.length∧i=F G k∧wr=w.drewN m∧Hid (∀j,j<k→z1U (xs.getD j z0k) (ys.getD j z0k)=true)) (fun i _=>xs.length-(intOf i).toNat)
  case atStart=>exact⟨0,0,t _,rfl,rfl,fun j hj=>absurd hj (Nat.not_lt_zero _)⟩
  case round=>
   obtain⟨k,m,hk,rfl,rfl,HA⟩:=hrel;by_cases J:k<xs.length
   ·have L:k<ys.length:=by have:=HL.out;omega
    obtain⟨b,V,rfl,T,x,y,A⟩:=h.at k J;obtain⟨b',O,rfl,N,C,D,I⟩:=h'.at k L
    cases hs:z1U (xs.getD k z0k) (ys.getD k z0k)
    case false=>
     have E:Hid (sameUs xs ys=false):=z4D (f:=z1U) z0k (fun _ _ _ _=>rfl) xs ys k HL.out J hs;have hr:=z2T (xs.getD k z0k).key (xs.getD k z0k).was (xs.getD k z0k).val (ys.getD k z0k).key (ys.getD k z0k).was (ys.getD k z0k).val;rw[show z1U ⟨(xs.getD k z0k).key,(xs.getD k z0k).was,(xs.getD k z0k).val⟩ ⟨(ys.getD k z0k).key,(ys.getD k z0k).was,(ys.getD k z0k).val⟩=false from hs,Bool.not_false]at hr;clear HA hs;generalize xs.getD k z0k=z at x y A hr;generalize ys.getD k z0k=z' at C D I hr
     go_wp2
     go_quiet (fail)
     go_wp2
     go_ret;rw[E.out];exact⟨rfl,(Below.refl _ _).trans ⟨rfl,rfl,rfl,H _,fun _ _=>rfl⟩⟩
    case true=>
     have HB:Hid (∀j,j<k+1→z1U (xs.getD j z0k) (ys.getD j z0k)=true):=by
      intro j hj;by_cases M:j=k
      ·subst M;exact hs
      ·exact HA.out j (by omega)
     have hr:=z2T (xs.getD k z0k).key (xs.getD k z0k).was (xs.getD k z0k).val (ys.getD k z0k).key (ys.getD k z0k).was (ys.getD k z0k).val;rw[show z1U ⟨(xs.getD k z0k).key,(xs.getD k z0k).was,(xs.getD k z0k).val⟩ ⟨(ys.getD k z0k).key,(ys.getD k z0k).was,(ys.getD k z0k).val⟩=true from hs,Bool.not_true]at hr;clear HA hs;generalize xs.getD k z0k=z at x y A hr;generalize ys.getD k z0k=z' at C D I hr
     go_wp2
     go_quiet (fail)
     go_wp2
     go_roundw
     case rel=>exact⟨k+1,_,by omega,by go_num,rfl,HB⟩
     case measure=>simp[intOf];omega
   ·have E:Hid (sameUs xs ys=true):=z4E (f:=z1U) z0k rfl (fun _ _ _ _=>rfl) xs ys HL.out (fun j hj=>HA.out j (by omega));clear HA
    go_wp2
    go_ret;rw[E.out];exact⟨rfl,(Below.refl _ _).trans ⟨rfl,rfl,rfl,H _,fun _ _=>rfl⟩⟩
theorem z4M(a a':Option Addr)(cap cap':Nat)(xs ys:List UndoD)(w:World)(h:UndoRow w a xs)(h':UndoRow w a' ys)(hl:xs.length≤1048576)(hl':ys.length≤1048576):
  Calls Q 117 #[K a xs.length cap,K a' ys.length cap'] w fun e w'=>e=.returned (.bool (sameUs xs ys))∧Below w.heap.size w w':=by
 have hq:=fun w h h'=>q09 a a' cap cap' xs ys w h h' hl hl'
 generalize sameUs xs ys=r at hq;go_enter func117,ntmps117
 go_wp2_with fail
 refine(hq _ h h').mono ?_;rintro e w' ⟨rfl,hb⟩
 go_wp2
 go_ret;exact⟨rfl,hb⟩
end Go.Proofs.YtlkpdgjnhkjpjaaGreatDoor

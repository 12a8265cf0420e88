import Derived.Test.YtlkpdgjnhkjpjaaGreatDoorSUAL
set_option linter.unusedVariables false
set_option linter.unusedSimpArgs false
set_option maxRecDepth 100000
set_option maxHeartbeats 4000000
namespace Go.Proofs.YtlkpdgjnhkjpjaaGreatDoor
open Go.RowKit Go.BigFrame
open InstQ renaming e->P,n->o
open Nat renaming le_refl->f,zero_le->Va
open List renaming length_map->Vb
open IntKind renaming i64->Q
open Value renaming int->H,slice->G
open Go.Proofs.Tryz renaming prog->B
open Go.Proofs.Tryz
def z0S:InstE:=⟨false,[],[],[]⟩
def z1R:List InstE→Int
 |[]=>0
 |x::r=>if insF x=0 then(if 0<r.length∧outV x.dec=3 then 8 else z1R r)else insF x
def ordF(ds:List InstE):Int:=if ds.length<1∨4<ds.length then 2 else z1R ds
def q5j(ds:List InstE):InstE:=ds.getD (ds.length-1) z0S
def decN(ds:List InstE):Nat:=if outV (q5j ds).dec=3 then ds.length-1 else ds.length
theorem z9C(ds:List InstE)(k:Nat)(hk:k<ds.length):ds.drop k=ds.getD k z0S::ds.drop (k+1):=by
 rw[List.drop_eq_getElem_cons hk];simp[List.getD,hk]
theorem z8v(ds:List InstE)(k:Nat)(hk:k<ds.length)(h:insF (ds.getD k z0S)≠0):z1R (ds.drop k)=insF (ds.getD k z0S):=by
 rw[z9C ds k hk,z1R,if_neg h]
theorem z6z(ds:List InstE)(k:Nat)(hk:k+1<ds.length)(h:insF (ds.getD k z0S)=0)(h3:outV (ds.getD k z0S).dec=3):z1R (ds.drop k)=8:=by
 rw[z9C ds k (by omega),z1R,if_pos h,if_pos ⟨by simp;omega,h3⟩]
theorem z6A(ds:List InstE)(k:Nat)(hk:k<ds.length)(h:insF (ds.getD k z0S)=0)(h3:¬(k+1<ds.length∧outV (ds.getD k z0S).dec=3)):z1R (ds.drop k)=z1R (ds.drop (k+1)):=by
 rw[z9C ds k hk,z1R,if_pos h,if_neg];rintro⟨h1,h2⟩;exact h3 ⟨by simp at h1;omega,h2⟩
theorem z8w(ds:List InstE)(k:Nat)(hk:ds.length≤k):z1R (ds.drop k)=0:=by
 rw[List.drop_of_length_le hk];rfl
theorem z5u:∀ (ds:List InstE),z1R ds=0↔∀k,k<ds.length→insF (ds.getD k z0S)=0∧(k+1<ds.length→outV (ds.getD k z0S).dec≠3)
 |[]=>by simp[z1R]
 |x::r=>by
  rw[z1R];constructor
  ·intro h k hk;by_cases h0:insF x=0
   ·rw[if_pos h0]at h;by_cases h1:0<r.length∧outV x.dec=3
    ·rw[if_pos h1]at h;exact absurd h (by decide)
    ·rw[if_neg h1]at h
     cases k with
     |zero=>exact⟨h0,fun hl h3=>h1 ⟨by simpa using hl,h3⟩⟩
     |succ k=>
      have:=(z5u r).1 h k (by simpa using hk);simp only[List.getD_cons_succ,List.length_cons];exact⟨this.1,fun hl=>this.2 (by omega)⟩
   ·rw[if_neg h0]at h;exact absurd h h0
  ·intro h;have h0:=h 0 (by simp);have e0:insF x=0:=h0.1;rw[if_pos e0,if_neg (fun e=>h0.2 (by simpa using e.1) e.2)];refine(z5u r).2 (fun k hk=>?_);have:=h (k+1) (by simpa using hk);simp only[List.getD_cons_succ,List.length_cons]at this;exact⟨this.1,fun hl=>this.2 (by omega)⟩
theorem z2n(ds:List InstE):ordF ds=0↔(1≤ds.length∧ds.length≤4)∧∀k,k<ds.length→insF (ds.getD k z0S)=0∧(k+1<ds.length→outV (ds.getD k z0S).dec≠3):=by
 unfold ordF;by_cases h:ds.length<1∨4<ds.length
 ·rw[if_pos h];constructor
  ·intro h;exact absurd h (by decide)
  ·rintro⟨h1,_⟩;omega
 ·rw[if_neg h,z5u];constructor
  ·intro h2;exact⟨by omega,h2⟩
  ·rintro⟨_,h2⟩;exact h2
theorem z2J{ds:List InstE}(h:ordF ds=0):∀x∈ds,insF x=0:=by
 intro x hx;obtain⟨k,hk,rfl⟩:=List.getElem_of_mem hx;have:=(((z2n ds).1 h).2 k hk).1;simpa[List.getD,hk]using this
theorem q2s(ds:List InstE):decN ds≤ds.length:=by
 unfold decN;split<;>omega
def stF(a b:TxnD):Bool:=(a.id==b.id)||((a.session==b.session) && (a.seq==b.seq))
def knw(acc:List TxnD)(t:TxnD):Bool:=acc.any (fun a=>stF a t)
def onc:List TxnD→List TxnD→List TxnD
 |acc,[]=>acc
 |acc,t::r=>onc (if knw acc t then acc else acc++[t]) r
def z30(ds:List InstE):List TxnD:=ds.flatMap (fun x=>if outV x.dec=1 then x.batch else [])
def defL(ds:List InstE)(n:Nat):List TxnD:=onc [] (z30 (ds.take n))
theorem z1O:∀ (xs ys acc:List TxnD),onc acc (xs++ys)=onc (onc acc xs) ys
 |[],_,_=>rfl
 |t::r,ys,acc=>by
  simp only[List.cons_append,onc];exact z1O r ys _
theorem q2t:∀ (xs acc:List TxnD),∃zs,onc acc xs=acc++zs
 |[],acc=>⟨[],by simp[onc]⟩
 |t::r,acc=>by
  simp only[onc];obtain⟨zs,e⟩:=q2t r (if knw acc t then acc else acc++[t]);rw[e];split
  ·exact⟨zs,rfl⟩
  ·exact⟨t::zs,by simp⟩
theorem z9D:∀ (xs acc:List TxnD),∀t∈onc acc xs,t∈acc∨t∈xs
 |[],acc,t,h=>Or.inl h
 |x::r,acc,t,h=>by
  simp only[onc]at h;rcases z9D r _ t h with h|h
  ·split at h
   ·exact Or.inl h
   ·rcases List.mem_append.1 h with h|h
    ·exact Or.inl h
    ·simp only[List.mem_singleton]at h;exact Or.inr (by rw[h];simp)
  ·exact Or.inr (List.mem_cons_of_mem _ h)
theorem z7f(xs acc:List TxnD):(onc acc xs).length≤acc.length+xs.length:=by
 induction xs generalizing acc with
 |nil=>simp[onc]
 |cons t r ih=>
  simp only[onc,List.length_cons];have:=ih (if knw acc t then acc else acc++[t]);split at this
  ·rename_i h;rw[if_pos h];omega
  ·rename_i h;rw[if_neg h];simp only[List.length_append,List.length_singleton]at this;omega
theorem q5k(ds:List InstE)(n m:Nat)(h:n≤m):∃zs,defL ds m=defL ds n++zs:=by
 have e:ds.take m=ds.take n++(ds.take m).drop n:=by
  have:=(List.take_append_drop n (ds.take m)).symm
  rwa [List.take_take,Nat.min_eq_left h]at this
 unfold defL;rw[e];unfold z30;rw[List.flatMap_append,z1O];exact q2t _ _
theorem z8x:(B.info? 117).map (fun i=>(i.zero,i.size,i.bytes))=some (some (.agg #[.bool false,G none 0 0,G none 0 0,G none 0 0]),4,80):=by kernel_rfl
theorem z7g(v:Value)(ps:List InstQ)(c:Int)(w:World)(h:instK.At w v ps)(hn:ps.length≤9223372036854775807)(J:∀p∈ps,InstQ.wf p)(h0:0≤c)(h1:c≤1048576):
  Calls B 35 #[v,H Q c] w fun e w'=>∃r:Int,e=.returned (H Q r)∧(¬r<0→((ps.length+nmL o ps:Nat):Int)+r=c)∧Below w.heap.size w w':=by
 obtain⟨a,cap,rfl⟩:=h.shape;by_cases U:c-ps.length<0
 ·go_enter func35,ntmps35
  go_wp2
  go_ret;exact⟨_,rfl,fun h=>by omega,Below.refl _ _⟩
 ·go_enter func35,ntmps35
  go_wp2
  go_loopw[1,5] (fun l i wr=>∃ (k:Nat) (x:Int),k≤ps.length∧i=H Q k∧l=H Q x∧0≤x∧x≤1048576∧Hid (ps.length+nmL o (ps.take k)+x=c)∧Below w.heap.size w wr) (fun _ i _=>ps.length-(intOf i).toNat)
  case atStart=>exact⟨0,c-ps.length,Va _,rfl,by go_num,by omega,by omega,show _=_ by simp[nmL];omega,Below.refl _ _⟩
  case round=>
   obtain⟨k,x,hk,rfl,rfl,N,O,HS,hb⟩:=hrel;by_cases z:k<ps.length
   ·obtain⟨b,T,rfl,W,hc,M⟩:=(h.below hb).cell (by decide) k z;have d:∀j x,(instK.cells ps[k])[j]?=some x→wr.cell? ⟨b,T+k*4+j,none⟩=some x:=hc;have c0:=d 0 (.bool ps[k].has) rfl;have c1:=d 1 (ps[k].vb) rfl;have c2:=d 2 (ps[k].vr) rfl;have c3:=d 3 (ps[k].vd) rfl;have hs:=z1r o ps k z;have HN:=J _ (List.getElem_mem z);have A:Hid (∀y:Int,(o ps[k]:Int)+y=x→ps.length+nmL o (ps.take (k+1))+y=c):=by
     intro y hy;have:=HS.out;omega
    clear HS hs hc d;generalize ps[k]=p at*;have E:=z77 p x wr M HN N O;generalize o p=m at*;rw[Nat.add_zero]at c0
    go_wp2_with fail
    refine E.mono ?_;rintro e w2 ⟨r,rfl,hr,C⟩;replace hb:=hb.trans (C.mono hb.size);clear C E c0 c1 c2 c3;by_cases V:r<0
    ·go_wp2
     go_ret;exact⟨_,rfl,fun h=>by omega,hb⟩
    ·have D:=hr (by omega);have HR:Hid (ps.length+nmL o (ps.take (k+1))+r=c):=A.out r D;have L:r≤1048576:=by omega
     clear A hr D
     go_wp2
     go_roundw
     case rel=>exact⟨k+1,r,by omega,by go_num,rfl,by omega,L,HR.out,hb⟩
     case measure=>simp[intOf];omega
   ·have I:k=ps.length:=by omega
    subst I;rw[List.take_length]at HS
    go_wp2
    go_ret;exact⟨_,rfl,fun _=>by have:=HS.out;omega,hb⟩
theorem z7h(v v':Value)(ps qs:List InstQ)(w:World)(h:instK.At w v ps)(h':instK.At w v' qs)(he:ps.map P=qs.map P)(hl:(ps.length+nmL o ps)≤1048576):
  Calls B 40 #[v,v'] w fun e w'=>e=.returned (.bool true)∧Below w.heap.size w w':=by
 obtain⟨a,cap,rfl⟩:=h.shape;obtain⟨a',T,rfl⟩:=h'.shape;have y:qs.length=ps.length:=by
  have:=congrArg List.length he;simpa using this.symm
 rw[y]at h'⊢;have HL:Hid (qs.length=ps.length):=y;clear y;go_enter func40,ntmps40
 go_wp2
 go_loopw[5] (fun i wr=>∃k:Nat,k≤ps.length∧i=H Q k∧Below w.heap.size w wr) (fun i _=>ps.length-(intOf i).toNat)
 case atStart=>exact⟨0,Va _,rfl,Below.refl _ _⟩
 case round=>
  obtain⟨k,hk,rfl,hb⟩:=hrel;by_cases C:k<ps.length
  ·have z:k<qs.length:=by have:=HL.out;omega
   obtain⟨b,O,rfl,V,hc,J⟩:=(h.below hb).cell (by decide) k C;obtain⟨b',L,rfl,U,hd,A⟩:=(h'.below hb).cell (by decide) k z;have c:∀j x,(instK.cells ps[k])[j]?=some x→wr.cell? ⟨b,O+k*4+j,none⟩=some x:=hc;have d:∀j x,(instK.cells qs[k])[j]?=some x→wr.cell? ⟨b',L+k*4+j,none⟩=some x:=hd;have c0:=c 0 (.bool ps[k].has) rfl;have d0:=d 0 (.bool qs[k].has) rfl;have c1:=c 1 (ps[k].vb) rfl;have d1:=d 1 (qs[k].vb) rfl;have c2:=c 2 (ps[k].vr) rfl;have d2:=d 2 (qs[k].vr) rfl;have c3:=c 3 (ps[k].vd) rfl;have d3:=d 3 (qs[k].vd) rfl;have I:P ps[k]=P qs[k]:=by
    have:=congrArg (·[k]?) he;simpa[C,z]using this
   have N:=z1o o ps k C;clear hc c hd d;generalize ps[k]=p at*;generalize qs[k]=p' at*;have D:=fun w h1 h2=>z78 p p' w h1 h2 I (show o p≤1048576 by omega)
   clear I N;rw[Nat.add_zero]at c0 d0;have k0:=z0d c0;have l0:=z0d d0;have k1:=z0d c1;have l1:=z0d d1;have k2:=z0d c2;have l2:=z0d d2;have k3:=z0d c3;have l3:=z0d d3;clear c0 d0 c1 d1 c2 d2 c3 d3;have hW:Below wr.heap.size wr wr.drew:=(Below.refl _ _).drew;have M:Nonempty (Lat wr):=⟨⟨wr,Below.refl _ _⟩⟩
   go_wp2_with fail
   refine z0a (S:=fun w'=>∃u:Lat wr,w'=u.val) (by kernel_rfl) ?_;refine sgr [(0,8)] 2 (by kernel_rfl) ⟨⟨_,hW⟩,rfl⟩ ?_;simp only[pkE];repeat go_big_quiet_step (fail)
   refine wpQuiet_nil ?_;refine cla 8 (some 25) 83 #[.agg #[.bool p.has,p.vb,p.vr,p.vd],.agg #[.bool p'.has,p'.vb,p'.vr,p'.vd]] 1 (by kernel_rfl) ?_;refine(D _ (instK.rd_below J hW) (instK.rd_below A hW)).mono ?_;rintro e w2 ⟨rfl,E⟩;replace hW:=hW.trans (E.mono hW.size);clear E;refine⟨_,rfl,⟨⟨_,hW⟩,rfl⟩,?_⟩;simp only[Act.put,pjE];refine sgr [(9,1)] 0 (by kernel_rfl) ⟨⟨_,hW⟩,rfl⟩ ?_;simp only[pkE];repeat go_big_quiet_step (fail)
   refine wpQuiet_nil ?_;refine z0e (by kernel_rfl) ?_;replace hb:=hb.trans (hW.mono hb.size);clear k0 l0 k1 l1 k2 l2 k3 l3 hW M J A D
   go_wp2
   go_roundw
   case rel=>exact⟨k+1,by omega,by go_num,hb⟩
   case measure=>simp[intOf];omega
  ·go_wp2
   go_ret;exact⟨rfl,hb⟩
theorem z7i(v:Value)(ps:List InstQ)(w:World)(h:instK.At w v ps)(hl:(ps.length+nmL o ps)≤1048576):
  Calls B 37 #[v] w fun e w'=>∃v' qs,e=.returned v'∧qs.map P=ps.map P∧instK.Own w' v' qs∧(instK.fp v' qs).Nodup∧(∀k∈instK.fp v' qs,w.heap.size≤k)∧Below w.heap.size w w':=by
 obtain⟨a,cap,rfl⟩:=h.shape;obtain⟨i0,hi,ao,ap,aq⟩:=info_parts z8x;have M:i0.bytes*ps.length≤281474976710656:=by rw[aq];omega
 have ae:ps.length≤maxLen:=by unfold maxLen;omega
 go_enter func37,ntmps37
 go_wp2_with (at_make;refine wpList_make_full _ rfl _ _ 24 rfl w.heap.size 117 i0 (.agg #[.bool false,G none 0 0,G none 0 0,G none 0 0]) 4 Tryz.underlying24 hi ao ap _ _ _ _ ps.length rfl rfl rfl rfl M ae (f _) ?_)
 intro w1 O I;have Z:Below w.heap.size w w1:=(Below.refl _ _).grown I (f _) (by simp);have hO:instK.Own w1 (G (some ⟨w.heap.size,0,none⟩) ps.length ps.length) (List.replicate ps.length (⟨false,G none 0 0,[],G none 0 0,[],G none 0 0,[]⟩:InstQ)):=by
  refine⟨?_,fun p hp=>?_⟩
  ·rw[List.length_replicate,←z4U (⟨false,G none 0 0,[],G none 0 0,[],G none 0 0,[]⟩:InstQ) _ (by decide)];exact z0r O (Va _)
  ·rw[(List.mem_replicate.1 hp).2];exact⟨⟨World.ownsRow_nil _ _ _ _,fun p hp=>by simp at hp⟩,⟨World.ownsRow_nil _ _ _ _,fun p hp=>by simp at hp⟩,⟨World.ownsRow_nil _ _ _ _,fun p hp=>by simp at hp⟩⟩
 have hF:instK.fp (G (some ⟨w.heap.size,0,none⟩) ps.length ps.length) (List.replicate ps.length (⟨false,G none 0 0,[],G none 0 0,[],G none 0 0,[]⟩:InstQ))=[w.heap.size]:=q0a rfl;have HN:Hid ((instK.fp (G (some ⟨w.heap.size,0,none⟩) ps.length ps.length) (List.replicate ps.length (⟨false,G none 0 0,[],G none 0 0,[],G none 0 0,[]⟩:InstQ))).Nodup):=by rw[hF];show List.Nodup _;simp
 have HG:Hid (∀x∈instK.fp (G (some ⟨w.heap.size,0,none⟩) ps.length ps.length) (List.replicate ps.length (⟨false,G none 0 0,[],G none 0 0,[],G none 0 0,[]⟩:InstQ)),w.heap.size≤x):=by rw[hF];intro x hx;simp at hx;omega
 have HZ:Hid (∀j (hj:j<(List.replicate ps.length (⟨false,G none 0 0,[],G none 0 0,[],G none 0 0,[]⟩:InstQ)).length),0≤j→(List.replicate ps.length (⟨false,G none 0 0,[],G none 0 0,[],G none 0 0,[]⟩:InstQ))[j]=(⟨false,G none 0 0,[],G none 0 0,[],G none 0 0,[]⟩:InstQ)):=fun j hj _=>by simp
 have af:(List.replicate ps.length (⟨false,G none 0 0,[],G none 0 0,[],G none 0 0,[]⟩:InstQ)).length=ps.length:=by simp
 clear O I hF;generalize List.replicate ps.length (⟨false,G none 0 0,[],G none 0 0,[],G none 0 0,[]⟩:InstQ)=aj at*;have HE:Hid ((aj.take 0).map P=(ps.take 0).map P):=show _=_ by simp
 go_wp2
 go_loopw [4] (fun i wr=>∃ (k:Nat) (qs:List InstQ),k≤ps.length∧i=H Q k∧Hid (qs.length=ps.length)∧Hid ((qs.take k).map P=(ps.take k).map P)∧Hid (∀ j (hj:j < qs.length),k≤j→qs[j]=(⟨false,G none 0 0,[],G none 0 0,[],G none 0 0,[]⟩:InstQ))∧instK.Own wr (G (some ⟨w.heap.size,0,none⟩) ps.length ps.length) qs ∧
  Hid ((instK.fp (G (some ⟨w.heap.size,0,none⟩) ps.length ps.length) qs).Nodup)∧Hid (∀ x∈instK.fp (G (some ⟨w.heap.size,0,none⟩) ps.length ps.length) qs,w.heap.size≤x)∧Below w.heap.size w wr) (fun i _=>ps.length - (intOf i).toNat)
 case atStart=>exact⟨0,aj,Va _,rfl,af,HE,HZ,hO,HN,HG,Z⟩
 case round=>
  clear HE HZ hO HN HG Z af;obtain⟨k,qs,hk,rfl,HQ,HE,HZ,hO,HN,HG,hb⟩:=hrel;by_cases W:k<ps.length
  ·have c:k<qs.length:=by have:=HQ.out;omega
   have D:=HZ.out k c (f _);obtain⟨b,ar,rfl,au,hc,ag⟩:=(h.below hb).cell (by decide) k W;have E:∀j x,(instK.cells ps[k])[j]?=some x→wr.cell? ⟨b,ar+k*4+j,none⟩=some x:=hc;have c0:=E 0 (.bool ps[k].has) rfl;have c1:=E 1 (ps[k].vb) rfl;have c2:=E 2 (ps[k].vr) rfl;have c3:=E 3 (ps[k].vd) rfl;have ax:=z1o o ps k W;have Y:Hid (∀p':InstQ,p'.e=P ps[k]→((qs.set k p').take (k+1)).map P=(ps.take (k+1)).map P):=by
    intro p' am;have h1:=HE.out;rw[List.take_succ_eq_append_getElem W,List.take_succ_eq_append_getElem (show k<(qs.set k p').length by simpa using c)];simp only[List.map_append,List.map_cons,List.map_nil,List.getElem_set_self,am,List.take_set_of_le (f k),h1]
   clear hc E;generalize ps[k]=p at*;have ah:=z79 p wr ag (by omega);rw[Nat.add_zero]at c0
   go_wp2_with fail
   refine ah.mono ?_;rintro e w2 ⟨p',rfl,X,d,J,y,aa⟩;obtain⟨x0,x1,y1,x2,y2,x3,y3⟩:=p';obtain⟨o1,o2,o3⟩:txnK.Own w2 x1 y1∧roundK.Own w2 x2 y2∧intK.Own w2 x3 y3:=And.intro d.1 d.2;obtain⟨a1,b1,rfl⟩:=o1.shape;obtain⟨a2,b2,rfl⟩:=o2.shape;obtain⟨a3,b3,rfl⟩:=o3.shape;clear o1 o2 o3;dsimp only;generalize hP:(⟨x0,G a1 y1.length b1,y1,G a2 y2.length b2,y2,G a3 y3.length b3,y3⟩:InstQ)=p' at X d J y;have U:instK.cells p'=[.bool x0,G a1 y1.length b1,G a2 y2.length b2,G a3 y3.length b3]:=by rw[←hP];rfl
   have z:=hO.below aa;obtain⟨e0,f0⟩:=z.cell k c 0 _ (by rw[D];rfl);obtain⟨e1,f1⟩:=z.cell k c 1 _ (by rw[D];rfl);obtain⟨e2,f2⟩:=z.cell k c 2 _ (by rw[D];rfl);obtain⟨e3,f3⟩:=z.cell k c 3 _ (by rw[D];rfl);have ad:∀j,k*instK.size+j=k*4+j:=fun j=>rfl
   rw[ad]at e0 f0 e1 f1 e2 f2 e3 f3;rw[Nat.add_zero]at e0 f0;have A:=z.1;have hQ:=HQ.out;rw[hQ]at A;have C:=z2g A (k*4) [.bool x0,G a1 y1.length b1,G a2 y2.length b2,G a3 y3.length b3];rw[←U]at C;have V:∀x∈instK.fp (G (some ⟨w.heap.size,0,none⟩) ps.length ps.length) qs,x<wr.heap.size:=hO.lt;have ab:w.heap.size∈instK.fp (G (some ⟨w.heap.size,0,none⟩) ps.length ps.length) qs:=by simp[Kind.fp,blk,Value.ownBlock]
   have av:w.heap.size<wr.heap.size:=V _ ab;have L:=HN.out;have N:∀x∈instK.foot p',x∉instK.fp (G (some ⟨w.heap.size,0,none⟩) ps.length ps.length) qs:=fun x hx an=>by have:=y x hx;have:=V x an;omega
   have T:instK.Own ((((w2.setCell ⟨w.heap.size,k*4,none⟩ (.bool x0)).setCell ⟨w.heap.size,k*4+1,none⟩ (G a1 y1.length b1)).setCell ⟨w.heap.size,k*4+2,none⟩ (G a2 y2.length b2)).setCell ⟨w.heap.size,k*4+3,none⟩ (G a3 y3.length b3)) (G (some ⟨w.heap.size,0,none⟩) ps.length ps.length) (qs.set k p'):=by
    refine Kind.Own.put z k c p' ?_ ((((Out.setCell _ _ _ _).trans (Out.setCell _ _ _ _)).trans (Out.setCell _ _ _ _)).trans (Out.setCell _ _ _ _)) ?_ d ?_
    ·rw[hQ];rw[U]at C⊢;exact C
    ·intro q hq x hx ai;simp only[Kind.fp,blk,Value.ownBlock,Option.toList,List.cons_append,List.nil_append,List.nodup_cons]at L;exact L.1 (List.mem_flatMap.2 ⟨q,hq,ai▸hx⟩)
    ·intro x hx ai;have:=y x hx;omega
   have R:Hid (instK.Own ((((w2.setCell ⟨w.heap.size,k*4,none⟩ (.bool x0)).setCell ⟨w.heap.size,k*4+1,none⟩ (G a1 y1.length b1)).setCell ⟨w.heap.size,k*4+2,none⟩ (G a2 y2.length b2)).setCell ⟨w.heap.size,k*4+3,none⟩ (G a3 y3.length b3)) (G (some ⟨w.heap.size,0,none⟩) ps.length ps.length) (qs.set k p')∧Below w.heap.size w ((((w2.setCell ⟨w.heap.size,k*4,none⟩ (.bool x0)).setCell ⟨w.heap.size,k*4+1,none⟩ (G a1 y1.length b1)).setCell ⟨w.heap.size,k*4+2,none⟩ (G a2 y2.length b2)).setCell ⟨w.heap.size,k*4+3,none⟩ (G a3 y3.length b3))):=by
    refine⟨T,?_⟩;have ak:=hb.trans (aa.mono hb.size);exact((((ak.setCell (p:=⟨w.heap.size,k*4,none⟩) (f _) _).setCell (p:=⟨w.heap.size,k*4+1,none⟩) (f _) _).setCell (p:=⟨w.heap.size,k*4+2,none⟩) (f _) _).setCell (p:=⟨w.heap.size,k*4+3,none⟩) (f _) _)
   have R1:Hid ((instK.fp (G (some ⟨w.heap.size,0,none⟩) ps.length ps.length) (qs.set k p')).Nodup):=z3E L k c p' (by rw[D];rfl) J N;have R2:Hid (∀x∈instK.fp (G (some ⟨w.heap.size,0,none⟩) ps.length ps.length) (qs.set k p'),w.heap.size≤x):=by
    intro x hx;simp only[Kind.fp,List.mem_append]at hx;rcases hx with hx|hx
    ·exact HG.out x (by simp only[Kind.fp,List.mem_append];exact Or.inl hx)
    ·rcases z1W c hx with hx|hx
     ·exact HG.out x (by simp only[Kind.fp,List.mem_append];exact Or.inr hx)
     ·have:=y x hx;omega
   have R3:Hid (∀j (hj:j<(qs.set k p').length),k+1≤j→(qs.set k p')[j]=(⟨false,G none 0 0,[],G none 0 0,[],G none 0 0,[]⟩:InstQ)):=fun j hj aw=>by
    rw[List.getElem_set_ne (by omega)];exact HZ.out j (by simpa using hj) (by omega)
   have R4:Hid ((qs.set k p').length=ps.length):=by rw[List.length_set];exact HQ.out
   have R5:Hid (((qs.set k p').take (k+1)).map P=(ps.take (k+1)).map P):=Y.out p' X;clear T C A hQ z hO HN HG HZ HE HQ Y L N d J y V ab hb D ag ah X ad U hP
   go_wp2
   go_roundw
   case rel=>exact⟨k+1,qs.set k p',by omega,by go_num,R4.out,R5.out,R3.out,R.out.1,R1.out,R2.out,R.out.2⟩
   case measure=>simp[intOf];omega
  ·have al:k=ps.length:=by omega
   subst al;have hQ:=HQ.out;have hE:=HE.out;rw[List.take_length,List.take_of_length_le (by omega)]at hE;clear HE HZ
   go_wp2
   go_ret;exact⟨_,qs,rfl,hE,hO,HN.out,HG.out,hb⟩
theorem q5l(c v:Int)(w:World):(Instr.field 53 (.agg #[H Q c,H Q v]) 0).run B w=.ok (H Q c) w:=by kernel_rfl
theorem q5m(c v:Int)(w:World):(Instr.field 53 (.agg #[H Q c,H Q v]) 1).run B w=.ok (H Q v) w:=by kernel_rfl
theorem q6k(x:InstE):(ocC x==0)=((insF x==0) && (outV x.dec !=3)):=by
 unfold ocC;by_cases h0:insF x=0
 ·rw[if_pos h0,h0];by_cases h3:outV x.dec=3
  ·rw[if_pos h3,h3];rfl
  ·rw[if_neg h3];have:(outV x.dec !=3)=true:=by simpa using h3
   rw[this];rfl
 ·rw[if_neg h0];have:(insF x==0)=false:=by simpa using h0
  rw[this];rfl
theorem z5v(ps:List InstQ)(k:Nat)(hk:k<ps.length):(ps.map P).getD k z0S=P ps[k]:=by simp[List.getD,hk]
theorem z6B(ps:List InstQ)(k:Nat)(hk:k<ps.length):o ps[k]≤nmL o ps:=z1o o ps k hk
theorem z7j{w:World}{a:Option Addr}{n cap:Nat}{ps:List InstQ}(h:instK.At w (G a n cap) ps)(k:Nat)(hk:k<ps.length):∃b off,a=some ⟨b,off,none⟩∧b<w.heap.size∧InstP w b (off+k*4) ps[k]:=by
 obtain⟨b,off,e,hb,hc,hrd⟩:=h.cell (by decide) k hk;have hc':∀j x,(instK.cells ps[k])[j]?=some x→w.cell? ⟨b,off+k*4+j,none⟩=some x:=hc;exact⟨b,off,e,hb,⟨hc' 0 (.bool ps[k].has) rfl,hc' 1 ps[k].vb rfl,hc' 2 ps[k].vr rfl,hc' 3 ps[k].vd rfl⟩,hrd⟩
theorem z3j(p:InstQ)(w:World)(hG:Rul w)(h:instK.rd w p)(hl:p.n≤1048576):
  Calls B 77 #[.agg #[.bool p.has,p.vb,p.vr,p.vd]] w fun e w'=>e=.returned (.bool (ocC p.e==0))∧Below w.heap.size w w':=by
 have y:=fun w hG h=>z2I p w hG h hl
 have z:=fun(w':World) hb=>instK.rd_below (w':=w') h hb
 generalize ocC p.e=D at*;generalize ocV p.e=E at*;obtain⟨has,vb,x,vr,d,vd,dec⟩:=p;obtain⟨ba,bk,rfl⟩:∃a c,vb=G a x.length c:=h.1.shape;obtain⟨va,vk,rfl⟩:∃a c,vr=G a d.length c:=h.2.1.shape;obtain⟨da,dk,rfl⟩:∃a c,vd=G a dec.length c:=h.2.2.shape;dsimp only at y z;have C:=q5l D E;have hB:Below w.heap.size w (w.alloc (.cells #[.bool has,G ba x.length bk,G va d.length vk,G da dec.length dk] 117)):=by go_grown
 go_enter func77,ntmps77
 go_wp2_with fail
 generalize w.alloc (.cells #[.bool has,G ba x.length bk,G va d.length vk,G da dec.length dk] 117)=W at*;refine(y W (hG.below hB) (z W hB)).mono ?_;rintro e w1 ⟨rfl,A⟩;replace hB:=hB.trans (A.mono hB.size)
 go_wp2
 go_ret;exact⟨rfl,hB⟩
theorem z3P(v:Value)(ps:List InstQ)(w:World)(hG:Rul w)(h:instK.At w v ps)(hl:(ps.length+nmL o ps)≤1048576):
  Calls B 76 #[v] w fun e w'=>e=.returned (H Q (ordF (ps.map P)))∧Below w.heap.size w w':=by
 obtain⟨a,cap,rfl⟩:=h.shape;generalize hE:ordF (ps.map P)=E;have HE:Hid (ordF (ps.map P)=E):=hE;clear hE;by_cases z:ps.length<1∨4<ps.length
 ·have E1:Hid (E=2):=by
   have:=HE.out;unfold ordF at this;rw[if_pos (by simpa using z)]at this;exact this.symm
  clear HE;rcases z with z|z
  ·go_enter func76,ntmps76
   go_wp2
   go_ret;exact⟨by rw[E1.out];rfl,Below.refl _ _⟩
  ·have h1:¬ps.length<1:=by omega
   go_enter func76,ntmps76
   go_wp2
   go_ret;exact⟨by rw[E1.out];rfl,Below.refl _ _⟩
 ·have HG:Hid (E=z1R (ps.map P)):=by
   have:=HE.out;unfold ordF at this;rw[if_neg (by simpa using z)]at this;exact this.symm
  have h1:¬ps.length<1:=by omega
  have h4:ps.length≤4:=by omega
  clear HE z;go_enter func76,ntmps76
  go_wp2
  go_loopw[16] (fun i wr=>∃k:Nat,k≤ps.length∧i=H Q k∧Hid (E=z1R ((ps.map P).drop k))∧Below w.heap.size w wr) (fun i _=>ps.length-(intOf i).toNat)
  case atStart=>exact⟨0,Va _,rfl,HG,Below.refl _ _⟩
  case round=>
   clear HG;obtain⟨k,hk,rfl,HG,hb⟩:=hrel;by_cases T:k<ps.length
   ·have J:=z5v ps k T;have D:Hid (insF (P ps[k])≠0→E=insF (P ps[k])):=fun hx=>by
     rw[HG.out,z8v _ k (by simpa using T) (by rw[J];exact hx),J]
    have I:Hid (k+1<ps.length→insF (P ps[k])=0→outV (P ps[k]).dec=3→E=8):=fun h1 h2 h3=>by
     rw[HG.out,z6z _ k (by simpa using h1) (by rw[J];exact h2) (by rw[J];exact h3)]
    have y:Hid (insF (P ps[k])=0→¬(k+1<ps.length∧outV (P ps[k]).dec=3)→E=z1R ((ps.map P).drop (k+1))):=fun h2 h3=>by
     rw[HG.out,z6A _ k (by simpa using T) (by rw[J];exact h2) (by rw[J];simpa using h3)]
    have hn:o ps[k]≤1048576:=by have:=z6B ps k T;omega
    have X:=z2H ps[k];have W:=z3j ps[k];have Y:=fun w hG h=>X w hG h hn
    have O:=fun w hG h=>W w hG h hn
    clear X W;have L:=q6k (P ps[k]);clear J HG;obtain⟨b,ag,rfl,ai,hc,V⟩:=(h.below hb).cell (by decide) k T;have N:∀j x,(instK.cells ps[k])[j]?=some x→wr.cell? ⟨b,ag+k*4+j,none⟩=some x:=hc;have c0:=N 0 (.bool ps[k].has) rfl;have c1:=N 1 ps[k].vb rfl;have c2:=N 2 ps[k].vr rfl;have c3:=N 3 ps[k].vd rfl;rw[Nat.add_zero]at c0;clear hc N;have Z:=fun(w':World) hb=>instK.rd_below (w':=w') V hb
    generalize ocC (P ps[k])=OC at*;generalize outV (P ps[k]).dec=OV at*;generalize insF (P ps[k])=C at*;generalize ps[k]=p at*;obtain⟨has,vb,A,vr,d,vd,dec⟩:=p;obtain⟨ba,bk,rfl⟩:∃a c,vb=G a A.length c:=V.1.shape;obtain⟨va,vk,rfl⟩:∃a c,vr=G a d.length c:=V.2.1.shape;obtain⟨da,dk,rfl⟩:∃a c,vd=G a dec.length c:=V.2.2.shape;dsimp only at c0 c1 c2 c3 Y O Z;have M:Below wr.heap.size wr (wr.alloc (.cells #[.bool has,G ba A.length bk,G va d.length vk,G da dec.length dk] 117)):=by go_grown
    have Bk:=Blk.new wr 117 #[.bool has,G ba A.length bk,G va d.length vk,G da dec.length dk];have aa:=Z _ M
    go_wp2_with fail
    generalize wr.alloc (.cells #[.bool has,G ba A.length bk,G va d.length vk,G da dec.length dk] 117)=W1 at*;refine(Y W1 (hG.below (hb.trans (M.mono hb.size))) aa).mono ?_;rintro e w2 ⟨rfl,U⟩;have ae:=instK.rd_below aa U;replace Bk:=Bk.below U;replace hb:=(hb.trans (M.mono hb.size)).trans (U.mono (hb.trans (M.mono hb.size)).size);clear M U aa Y c0 c1 c2 c3 Z;by_cases hC:C=0
    ·subst hC;by_cases ad:k+1<ps.length
     ·have af:(k:Int)<(ps.length:Int)-1:=by omega
      obtain⟨p0,p1,p2,p3⟩:=Bk.cel4
      go_wp2_with fail
      refine(O w2 (hG.below hb) ae).mono ?_;rintro e w3 ⟨rfl,ab⟩;replace hb:=hb.trans (ab.mono hb.size);clear ab O p0 p1 p2 p3 Bk ae;by_cases hO:OV=3
      ·have e1:(OC==0)=false:=by rw[L,hO];rfl
       have E1:Hid (E=8):=I.out ad (by simp) hO;clear L I y D
       go_wp2
       go_ret;exact⟨by rw[E1.out];rfl,hb⟩
      ·have e1:(OC==0)=true:=by
        rw[L];have:(OV !=3)=true:=by simpa using hO
        rw[this];rfl
       have E1:Hid (E=z1R ((ps.map P).drop (k+1))):=y.out (by simp) (fun h=>hO h.2);clear L I y D
       go_wp2
       go_roundw
       case rel=>exact⟨k+1,by omega,by go_num,E1.out,hb⟩
       case measure=>simp[intOf];omega
     ·have af:¬(k:Int)<(ps.length:Int)-1:=by omega
      have E1:Hid (E=z1R ((ps.map P).drop (k+1))):=y.out (by simp) (fun h=>ad h.1);clear L I y D O
      go_wp2
      go_roundw
      case rel=>exact⟨k+1,by omega,by go_num,E1.out,hb⟩
      case measure=>simp[intOf];omega
    ·have ah:(C !=0)=true:=by simpa using hC
     have E1:Hid (E=C):=D.out hC;clear L I y D O
     go_wp2
     go_ret;exact⟨by rw[E1.out];rfl,hb⟩
   ·have E1:Hid (E=0):=by rw[HG.out];exact z8w _ k (by simp;omega)
    clear HG
    go_wp2
    go_ret;exact⟨by rw[E1.out];rfl,hb⟩
theorem z9E(v:Value)(ps:List InstQ)(w:World)(h:instK.At w v ps)(hl:(ps.length+nmL o ps)≤1048576):
  Calls B 107 #[v] w fun e w'=>e=.returned (H Q (ordF (ps.map P)))∧Below w.heap.size w w':=by
 obtain⟨a,cap,rfl⟩:=h.shape;generalize hE:ordF (ps.map P)=E;have HE:Hid (ordF (ps.map P)=E):=hE;clear hE;by_cases x:ps.length<1∨4<ps.length
 ·have E1:Hid (E=2):=by
   have:=HE.out;unfold ordF at this;rw[if_pos (by simpa using x)]at this;exact this.symm
  clear HE;rcases x with x|x
  ·go_enter func107,ntmps107
   go_wp2
   go_ret;exact⟨by rw[E1.out];rfl,Below.refl _ _⟩
  ·have h1:¬ps.length<1:=by omega
   go_enter func107,ntmps107
   go_wp2
   go_ret;exact⟨by rw[E1.out];rfl,Below.refl _ _⟩
 ·have HG:Hid (E=z1R (ps.map P)):=by
   have:=HE.out;unfold ordF at this;rw[if_neg (by simpa using x)]at this;exact this.symm
  have h1:¬ps.length<1:=by omega
  have h4:ps.length≤4:=by omega
  clear HE x;go_enter func107,ntmps107
  go_wp2
  go_loopw[3] (fun i wr=>∃k:Nat,k≤ps.length∧i=H Q k∧Hid (E=z1R ((ps.map P).drop k))∧Below w.heap.size w wr) (fun i _=>ps.length-(intOf i).toNat)
  case atStart=>exact⟨0,Va _,rfl,HG,Below.refl _ _⟩
  case round=>
   clear HG;obtain⟨k,hk,rfl,HG,hb⟩:=hrel;by_cases A:k<ps.length
   ·have z:=z5v ps k A;have y:Hid (insF (P ps[k])≠0→E=insF (P ps[k])):=fun hx=>by
     rw[HG.out,z8v _ k (by simpa using A) (by rw[z];exact hx),z]
    have d:Hid (k+1<ps.length→insF (P ps[k])=0→outV (P ps[k]).dec=3→E=8):=fun h1 h2 h3=>by
     rw[HG.out,z6z _ k (by simpa using h1) (by rw[z];exact h2) (by rw[z];exact h3)]
    have c:Hid (insF (P ps[k])=0→¬(k+1<ps.length∧outV (P ps[k]).dec=3)→E=z1R ((ps.map P).drop (k+1))):=fun h2 h3=>by
     rw[HG.out,z6A _ k (by simpa using A) (by rw[z];exact h2) (by rw[z];simpa using h3)]
    obtain⟨b,T,rfl,X,hP⟩:=z7j (h.below hb) k A;have hn:o ps[k]≤1048576:=by have:=z6B ps k A;omega
    have J:=z9y b (T+k*4) ps[k];have I:=z2m b (T+k*4) ps[k];have M:=fun w hP=>J w hP hn
    have D:=fun w hP=>I w hP hn
    clear J I;have O:outV (P ps[k]).dec=outV ps[k].dec:=rfl;rw[O]at d c;clear z HG O;generalize outV ps[k].dec=OV at*;generalize insF (P ps[k])=C at*;generalize ps[k]=p at*
    go_wp2_with fail
    refine(M wr hP).mono ?_;rintro e w2 ⟨rfl,L⟩;replace hP:=hP.below L;replace hb:=hb.trans (L.mono hb.size);clear L M;by_cases hC:C=0
    ·subst hC;by_cases N:k+1<ps.length
     ·have V:(k:Int)<(ps.length:Int)-1:=by omega
      go_wp2_with fail
      refine(D w2 hP).mono ?_;rintro e w3 ⟨rfl,hw⟩;replace hw:=hw.symm;subst hw;clear D hP;by_cases hO:OV=3
      ·have E1:Hid (E=8):=d.out N (by simp) hO;have U:(OV==3)=true:=by simpa using hO
       clear d c y hO
       go_wp2
       go_ret;exact⟨by rw[E1.out];rfl,hb⟩
      ·have U:(OV==3)=false:=by simpa using hO
       have E1:Hid (E=z1R ((ps.map P).drop (k+1))):=c.out (by simp) (fun h=>hO h.2);clear d c y hO
       go_wp2
       go_roundw
       case rel=>exact⟨k+1,by omega,by go_num,E1.out,hb⟩
       case measure=>simp[intOf];omega
     ·have V:¬(k:Int)<(ps.length:Int)-1:=by omega
      have E1:Hid (E=z1R ((ps.map P).drop (k+1))):=c.out (by simp) (fun h=>N h.1);clear d c y D
      go_wp2
      go_roundw
      case rel=>exact⟨k+1,by omega,by go_num,E1.out,hb⟩
      case measure=>simp[intOf];omega
    ·have W:(C !=0)=true:=by simpa using hC
     have E1:Hid (E=C):=y.out hC;clear d c y D
     go_wp2
     go_ret;exact⟨by rw[E1.out];rfl,hb⟩
   ·have E1:Hid (E=0):=by rw[HG.out];exact z8w _ k (by simp;omega)
    clear HG
    go_wp2
    go_ret;exact⟨by rw[E1.out];rfl,hb⟩
def diV(ds:List InstE):Int:=if ordF ds=0 then(decN ds:Int)else 0
theorem z7k(ps:List InstQ)(hlt:ps.length-1<ps.length):q5j (ps.map P)=P ps[ps.length-1]:=by
 unfold q5j;rw[Vb];exact z5v ps _ hlt
theorem z1x(v:Value)(ps:List InstQ)(w:World)(hG:Rul w)(h:instK.At w v ps)(hl:(ps.length+nmL o ps)≤1048576):
  Calls B 33 #[v] w fun e w'=>e=.returned (.agg #[H Q (ordF (ps.map P)),H Q (diV (ps.map P))])∧Below w.heap.size w w':=by
 have Y:=fun w hG h=>z3P v ps w hG h hl
 have HO:Hid (ordF (ps.map P)=0→1≤ps.length∧ps.length≤4∧∀q∈ps,insF (P q)=0):=fun h0=>by
  have:=((z2n _).1 h0).1;rw[Vb]at this;exact⟨this.1,this.2,fun q hq=>z2J h0 _ (List.mem_map.2 ⟨q,hq,rfl⟩)⟩
 have HV:Hid ((ordF (ps.map P)=0→diV (ps.map P)=(decN (ps.map P):Int))∧(ordF (ps.map P)≠0→diV (ps.map P)=0)):=⟨fun h0=>if_pos h0,fun h0=>if_neg h0⟩
 obtain⟨a,cap,rfl⟩:=h.shape;generalize ordF (ps.map P)=C at*;generalize diV (ps.map P)=V at*;have hB:Below w.heap.size w (w.alloc (.cells #[H Q 0,H Q 0] 53)):=by go_grown
 have Rb:=Blk.new w 53 #[H Q 0,H Q 0];go_enter func33,ntmps33
 go_wp2_with fail
 generalize w.alloc (.cells #[H Q 0,H Q 0] 53)=W at*;refine(Y W (hG.below hB) (h.below hB)).mono ?_;rintro e w1 ⟨rfl,hb⟩;replace hB:=hB.trans (hb.mono hB.size);replace Rb:=Rb.below hb;clear hb Y;by_cases hC:C=0
 ·obtain⟨h1,h4,X⟩:=HO.out hC;have hv:=HV.out.1 hC;subst hC;have y:ps.length-1<ps.length:=by omega
  have M:=X _ (List.getElem_mem y);have z:=q6k (P ps[ps.length-1]);have D:Hid (outV (P ps[ps.length-1]).dec=3→V=(ps.length:Int)-1):=fun h3=>by
   rw[hv];unfold decN;rw[z7k ps y,if_pos h3,Vb];omega
  have E:Hid (outV (P ps[ps.length-1]).dec≠3→V=(ps.length:Int)):=fun h3=>by
   rw[hv];unfold decN;rw[z7k ps y,if_neg h3,Vb]
  rw[M]at z;have hn:o ps[ps.length-1]≤1048576:=by have:=z6B ps _ y;omega
  have L:=z3j ps[ps.length-1];have T:=fun w hG h=>L w hG h hn
  clear L X M hv HV HO hn;obtain⟨b,aa,rfl,ad,hc,I⟩:=(h.below hB).cell (by decide) (ps.length-1) y;have d:∀j x,(instK.cells ps[ps.length-1])[j]?=some x→w1.cell? ⟨b,aa+(ps.length-1)*4+j,none⟩=some x:=hc;have c0:=d 0 (.bool ps[ps.length-1].has) rfl;have c1:=d 1 ps[ps.length-1].vb rfl;have c2:=d 2 ps[ps.length-1].vr rfl;have c3:=d 3 ps[ps.length-1].vd rfl;rw[Nat.add_zero]at c0;clear hc d;have U:((ps.length:Int)-1).toNat=ps.length-1:=by omega
  generalize ocC (P ps[ps.length-1])=OC at*;generalize outV (P ps[ps.length-1]).dec=OV at*;generalize ps[ps.length-1]=p at*;generalize hm:ps.length-1=m at*;have Z:(ps.length:Int)-1=(m:Int):=by omega
  have A:ps.length=m+1:=by omega
  rw[Z]at D;rw[A]at h4 E⊢;rw[A]at*;clear hm U Z A;obtain⟨has,vb,N,vr,J,vd,dec⟩:=p;obtain⟨ba,bk,rfl⟩:∃a c,vb=G a N.length c:=I.1.shape;obtain⟨va,vk,rfl⟩:∃a c,vr=G a J.length c:=I.2.1.shape;obtain⟨da,dk,rfl⟩:∃a c,vd=G a dec.length c:=I.2.2.shape;dsimp only at c0 c1 c2 c3 T;obtain⟨q0,q1⟩:=Rb.cel2;obtain⟨f0,f1⟩:=Rb.frz2;clear q0 q1 f0 f1
  go_wp2_with fail
  refine(T w1 (hG.below hB) I).mono ?_;rintro e w3 ⟨rfl,O⟩;replace hB:=hB.trans (O.mono hB.size);replace Rb:=Rb.below O;obtain⟨q0,q1⟩:=Rb.cel2;obtain⟨f0,f1⟩:=Rb.frz2;clear O T c0 c1 c2 c3;by_cases hO:OV=3
  ·have e1:(OC==0)=false:=by rw[z,hO];rfl
   have E1:Hid (V=(m:Int)):=D.out hO;clear z D E
   go_wp2
   exact bodyPost_ret (v:=.agg #[H Q 0,H Q m]) (by simp[results,results33,go_sem,q0,q1]) rfl ⟨by rw[E1.out],(hB.setCell (p:=⟨w.heap.size,0,none⟩) (f _) _).setCell (p:=⟨w.heap.size,1,none⟩) (f _) _⟩
  ·have e1:(OC==0)=true:=by
    rw[z];have:(OV !=3)=true:=by simpa using hO
    rw[this];rfl
   have E1:Hid (V=(m:Int)+1):=by have:=E.out hO;exact this.trans (by omega)
   clear z D E
   go_wp2
   exact bodyPost_ret (v:=.agg #[H Q 0,H Q ((m:Int)+1)]) (by simp[results,results33,go_sem,q0,q1]) rfl ⟨by rw[E1.out],(hB.setCell (p:=⟨w.heap.size,0,none⟩) (f _) _).setCell (p:=⟨w.heap.size,1,none⟩) (f _) _⟩
 ·have E1:Hid (V=0):=HV.out.2 hC;have ab:(C !=0)=true:=by simpa using hC
  obtain⟨q0,q1⟩:=Rb.cel2;obtain⟨f0,f1⟩:=Rb.frz2;clear HV HO
  go_wp2
  exact bodyPost_ret (v:=.agg #[H Q C,H Q 0]) (by simp[results,results33,go_sem,q0,q1]) rfl ⟨by rw[E1.out],(hB.setCell (p:=⟨w.heap.size,0,none⟩) (f _) _).setCell (p:=⟨w.heap.size,1,none⟩) (f _) _⟩
theorem z7l(v:Value)(ps:List InstQ)(w:World)(h:instK.At w v ps)(hl:(ps.length+nmL o ps)≤1048576)(h1:1≤ps.length)(h4:ps.length≤4):
  Calls B 72 #[v] w fun e w'=>e=.returned (H Q (decN (ps.map P)))∧Below w.heap.size w w':=by
 obtain⟨a,cap,rfl⟩:=h.shape;have c:ps.length-1<ps.length:=by omega
 obtain⟨V,hv⟩:∃V:Int,(decN (ps.map P):Int)=V:=⟨_,rfl⟩
 have d:Hid (outV ps[ps.length-1].dec=3→V=(ps.length:Int)-1):=fun h3=>by
  rw[←hv];unfold decN;rw[z7k ps c,if_pos (show outV (P ps[ps.length-1]).dec=3 from h3),Vb];omega
 have x:Hid (outV ps[ps.length-1].dec≠3→V=(ps.length:Int)):=fun h3=>by
  rw[←hv];unfold decN;rw[z7k ps c,if_neg (show¬outV (P ps[ps.length-1]).dec=3 from h3),Vb]
 rw[hv];have hn:o ps[ps.length-1]≤1048576:=by have:=z6B ps _ c;omega
 obtain⟨b,D,rfl,E,hP⟩:=z7j h (ps.length-1) c;have y:=z2m b (D+(ps.length-1)*4) ps[ps.length-1];have A:=y w hP hn;clear y hn hv h;generalize outV ps[ps.length-1].dec=OV at*;generalize ps[ps.length-1]=p at*;generalize hm:ps.length-1=m at*;have C:(ps.length:Int)-1=(m:Int):=by omega
 have z:ps.length=m+1:=by omega
 rw[C]at d;rw[z]at h4 x⊢;clear hm C z hl h1 c;go_enter func72,ntmps72
 go_wp2_with fail
 refine A.mono ?_;rintro e w3 ⟨rfl,hw⟩;replace hw:=hw.symm;subst hw;clear A hP;by_cases hO:OV=3
 ·have e1:(OV==3)=true:=by simpa using hO
  have E1:Hid (V=(m:Int)):=d.out hO;clear d x hO
  go_wp2
  go_ret;exact⟨by rw[E1.out];rfl,Below.refl _ _⟩
 ·have e1:(OV==3)=false:=by simpa using hO
  have E1:Hid (V=(m:Int)+1):=by have:=x.out hO;exact this.trans (by omega)
  clear d x hO
  go_wp2
  go_ret;exact⟨by rw[E1.out];rfl,Below.refl _ _⟩
theorem z1d(v:Value)(ps:List TxnQ)(w:World)(h:txnK.At w v ps)(ax:∀p∈ps,0<p.acts.length)(hl:ps.length+nmL TxnQ.n ps≤1048576):
  Calls B 73 #[v] w fun e w'=>∃v' qs,e=.returned v'∧qs.map TxnQ.e=ps.map TxnQ.e∧txnK.Own w' v' qs∧(txnK.fp v' qs).Nodup∧(∀k∈txnK.fp v' qs,w.heap.size≤k)∧Below w.heap.size w w':=by
 obtain⟨a,cap,rfl⟩:=h.shape;obtain⟨i0,hi,aB,aC,aD⟩:=info_parts z1f;obtain⟨ai,aj⟩:=Kind.own_nil (K:=txnK) w;have X:Hid ((txnK.fp (G none 0 0) ([]:List TxnQ)).Nodup∧∀k∈txnK.fp (G none 0 0) ([]:List TxnQ),w.heap.size≤k):=by
  rw[aj];exact⟨by simp,by simp⟩
 clear aj;go_enter func73,ntmps73
 go_wp2
 go_loopw[3,8] (fun v j wr=>∃ (k:Nat) (qs:List TxnQ),k≤ps.length∧j=H Q k∧Hid (qs.map TxnQ.e=(ps.take k).map TxnQ.e)∧txnK.Own wr v qs∧Hid ((txnK.fp v qs).Nodup∧∀k∈txnK.fp v qs,w.heap.size≤k)∧Below w.heap.size w wr) (fun _ j _=>ps.length-(intOf j).toNat)
 case atStart=>exact⟨0,[],Va _,rfl,(rfl:_=_),ai,X,Below.refl _ _⟩
 case round=>
  clear X ai;obtain⟨k,qs,hk,rfl,HE,hO,HN,hb⟩:=hrel;obtain⟨sa,sc,rfl⟩:=hO.shape;have ad:Hid (qs.length=k):=by
   have:=congrArg List.length HE.out;rw[Vb,Vb,List.length_take]at this;show qs.length=k;omega
  by_cases M:k<ps.length
  ·obtain⟨b,aE,rfl,aG,hc,d⟩:=(h.below hb).cell (by decide) k M;have A:∀j x,(txnK.cells ps[k])[j]?=some x→wr.cell? ⟨b,aE+k*4+j,none⟩=some x:=hc;have c0:=A 0 (H Q ps[k].i) rfl;have c1:=A 1 (H Q ps[k].s) rfl;have c2:=A 2 (H Q ps[k].q) rfl;have c3:=A 3 (ps[k].va) rfl;have V:=z1o TxnQ.n ps k M;have D:=ax _ (List.getElem_mem M);have Z:Hid (∀p':TxnQ,p'.e=TxnQ.e ps[k]→(qs++[p']).map TxnQ.e=(ps.take (k+1)).map TxnQ.e):=fun p' ay=>by
    rw[List.take_succ_eq_append_getElem M,List.map_append,List.map_append,HE.out,List.map_singleton,List.map_singleton,ay]
   clear hc A;generalize ps[k]=p at*;obtain⟨i,s,q,va,c⟩:=p;replace d:actK.At wr va c:=d;replace V:c.length≤nmL TxnQ.n ps:=V;obtain⟨aa,ac,rfl⟩:=d.shape;dsimp only at c0 c1 c2 c3 D;obtain⟨ab,ao,au⟩:∃ab ao,aa=some ⟨ab,ao,none⟩:=by
    rcases(z0w d).2 with h0|⟨ab,ao,e,_⟩
    ·have:=z0q c;rw[h0]at this;simp at this;omega
    ·exact⟨ab,ao,e⟩
   subst au;have L:Below wr.heap.size wr (wr.alloc (.cells #[H Q i,H Q s,H Q q,G (some ⟨ab,ao,none⟩) c.length ac] 39)):=by go_grown
   have ag:=z2C i s q ab ao ac c _ ((z0w d).2.below L) D (by omega);rw[Nat.add_zero]at c0;replace hO:=hO.below L;replace hb:=hb.trans (L.mono hb.size);clear HE L
   go_wp2_with fail
   clear c0 c1 c2 c3;generalize wr.alloc (.cells #[H Q i,H Q s,H Q q,G (some ⟨ab,ao,none⟩) c.length ac] 39)=Y at*;have aF:w.heap.size≤Y.heap.size:=hb.size;refine ag.mono ?_;rintro e w2 ⟨a2,c2,rfl,am,I⟩;have W:=hO.lt;replace hO:=hO.below I;replace hb:=hb.trans (I.mono hb.size);obtain⟨o2,ah⟩:=z0u am;have hP:txnK.own w2 ⟨i,s,q,G a2 c.length c2,c⟩:=⟨o2,fun _ _=>trivial⟩
   have y:∀x∈txnK.foot ⟨i,s,q,G a2 c.length c2,c⟩,Y.heap.size≤x:=fun x hx=>ah x (by rw[←z0W (G a2 c.length c2) c];exact hx)
   have af:(txnK.foot ⟨i,s,q,G a2 c.length c2,c⟩).Nodup:=by
    show(actK.fp _ _).Nodup;rw[z0W];exact z0t _
   have z:Below w2.heap.size w2 (w2.alloc (.cells #[H Q i,H Q s,H Q q,G a2 c.length c2] 39)):=by go_grown
   have T:=hO.below z;have ae:=txnK.own_out (F:=[]) hP (Out.of_below z) (fun _ _=>by simp);have J:=hb.trans (z.mono hb.size);clear ag am hO hP ah;have E:=T.1
   go_wp2_with (at_builtin;refine wpList_append_own_at _ rfl _ _ 25 rfl 0 39 i0 (.agg #[H Q 0,H Q 0,H Q 0,G none 0 0]) 4 48 Tryz.underlying25 hi aB aC aD rfl (by decide) _ qs.length (txnK.row qs) rfl E ⟨w2.heap.size,0,none⟩ 1 1 [H Q i,H Q s,H Q q,G a2 c.length c2] rfl rfl ?c1 ?c2 ?c3 ?c4 ?c5 ?_)
   all_goals try(case c1=>intro j u hj;match j,hj with|0,hj=>simp at hj;subst hj;simp[Addr.add]|1,hj=>simp at hj;subst hj;simp[Addr.add]|2,hj=>simp at hj;subst hj;simp[Addr.add]|3,hj=>simp at hj;subst hj;simp[Addr.add])
   all_goals try(case c2=>intro u hu;simp at hu;rcases hu with rfl|rfl|rfl|rfl<;>rfl)
   all_goals try(case c3=>have:=ad.out;unfold maxLen;omega)
   all_goals try(case c4=>have:=ad.out;omega)
   all_goals try(case c5=>first|omega|simp)
   intro v' w5 O C al U;clear al E;rw[show w2.heap.size+1=(w2.alloc (.cells #[H Q i,H Q s,H Q q,G a2 c.length c2] 39)).heap.size from(World.size_alloc _ _).symm]at U;generalize az:w2.alloc (.cells #[H Q i,H Q s,H Q q,G a2 c.length c2] 39)=WA at*;clear az;have aH:Y.heap.size≤WA.heap.size:=by have:=I.size;have:=z.size;omega
   obtain⟨ar,ak,N,an⟩:=T.snoc HN.out.1 HN.out.2 ae af (fun x hx aA=>by have:=W x aA;have:=y x hx;omega) (fun x hx=>by have:=y x hx;omega) J.size O C U;have av:Below w.heap.size w w5:=Out.keep J an J.size (fun x hx=>HN.out.2 x (by simp only[Kind.fp,List.mem_append];exact Or.inl hx));have ap:Hid ((qs++[(⟨i,s,q,G a2 c.length c2,c⟩:TxnQ)]).map TxnQ.e=(ps.take (k+1)).map TxnQ.e):=Z.out _ rfl;have aq:Hid ((txnK.fp v' (qs++[(⟨i,s,q,G a2 c.length c2,c⟩:TxnQ)])).Nodup∧∀k∈txnK.fp v' (qs++[(⟨i,s,q,G a2 c.length c2,c⟩:TxnQ)]),w.heap.size≤k):=⟨ak,N⟩
   clear Z HN W y af ae T J O C U an ak N d hb z I V D
   go_wp2
   go_roundw
   case rel=>exact⟨k+1,_,by omega,by go_num,ap,ar,aq,av⟩
   case measure=>simp[intOf];omega
  ·have aw:k=ps.length:=by omega
   subst aw;have hE:=HE.out;rw[List.take_length]at hE;clear HE
   go_wp2
   go_ret;exact⟨_,qs,rfl,hE,hO,HN.out.1,HN.out.2,hb⟩
theorem z0L(w:World)(g:Nat)(cs:Array Value):Out [g] w (w.setRow g cs):=
 ⟨rfl,rfl,rfl,by rw[setRow_size];exact f _,fun k _ hn=>setRow_other w g k cs (by simpa using hn)⟩
end Go.Proofs.YtlkpdgjnhkjpjaaGreatDoor

/- Texts joined,with what the laws reach alone. -/
import Derived.Test.YtlkpdgjnhkjpjaaGreatDoorSCAL
set_option linter.unusedVariables false
set_option linter.unusedSimpArgs false
set_option maxRecDepth 100000
set_option maxHeartbeats 4000000
namespace Go.Proofs.YtlkpdgjnhkjpjaaGreatDoor
open Go.RowKit Go.BigFrame
def z0Q:InstE:=⟨false,[],[],[]⟩
def z1E:List InstE→Int
 |[]=>0
 |x::r=>if insF x=0 then(if 0<r.length∧outV x.dec=3 then 8 else z1E r)else insF x
def ordF(ds:List InstE):Int:=if ds.length<1∨4<ds.length then 2 else z1E ds
def q4v(ds:List InstE):InstE:=ds.getD (ds.length-1) z0Q
def decN(ds:List InstE):Nat:=if outV (q4v ds).dec=3 then ds.length-1 else ds.length
theorem z89(ds:List InstE)(k:Nat)(hk:k<ds.length):ds.drop k=ds.getD k z0Q::ds.drop (k+1):=by
 rw[List.drop_eq_getElem_cons hk];simp[List.getD,hk]
theorem z78(ds:List InstE)(k:Nat)(hk:k<ds.length)(h:insF (ds.getD k z0Q)≠0):z1E (ds.drop k)=insF (ds.getD k z0Q):=by
 rw[z89 ds k hk,z1E,if_neg h]
theorem z6n(ds:List InstE)(k:Nat)(hk:k+1<ds.length)(h:insF (ds.getD k z0Q)=0)(h3:outV (ds.getD k z0Q).dec=3):z1E (ds.drop k)=8:=by
 rw[z89 ds k (by omega),z1E,if_pos h,if_pos ⟨by simp;omega,h3⟩]
theorem z6o(ds:List InstE)(k:Nat)(hk:k<ds.length)(h:insF (ds.getD k z0Q)=0)(h3:¬(k+1<ds.length∧outV (ds.getD k z0Q).dec=3)):z1E (ds.drop k)=z1E (ds.drop (k+1)):=by
 rw[z89 ds k hk,z1E,if_pos h,if_neg];rintro⟨h1,h2⟩;exact h3 ⟨by simp at h1;omega,h2⟩
theorem z79(ds:List InstE)(k:Nat)(hk:ds.length≤k):z1E (ds.drop k)=0:=by
 rw[List.drop_of_length_le hk];rfl
theorem z5n:∀ (ds:List InstE),z1E ds=0↔∀k,k<ds.length→insF (ds.getD k z0Q)=0∧(k+1<ds.length→outV (ds.getD k z0Q).dec≠3)
 |[]=>by simp[z1E]
 |x::r=>by
  rw[z1E];constructor
  ·intro h k hk;by_cases h0:insF x=0
   ·rw[if_pos h0]at h;by_cases h1:0<r.length∧outV x.dec=3
    ·rw[if_pos h1]at h;exact absurd h (by decide)
    ·rw[if_neg h1]at h
     cases k with
     |zero=>exact⟨h0,fun hl h3=>h1 ⟨by simpa using hl,h3⟩⟩
     |succ k=>
      have:=(z5n r).1 h k (by simpa using hk);simp only[List.getD_cons_succ,List.length_cons];exact⟨this.1,fun hl=>this.2 (by omega)⟩
   ·rw[if_neg h0]at h;exact absurd h h0
  ·intro h;have h0:=h 0 (by simp);have e0:insF x=0:=h0.1;rw[if_pos e0,if_neg (fun e=>h0.2 (by simpa using e.1) e.2)];refine(z5n r).2 (fun k hk=>?_);have:=h (k+1) (by simpa using hk);simp only[List.getD_cons_succ,List.length_cons]at this;exact⟨this.1,fun hl=>this.2 (by omega)⟩
theorem z2c(ds:List InstE):ordF ds=0↔(1≤ds.length∧ds.length≤4)∧∀k,k<ds.length→insF (ds.getD k z0Q)=0∧(k+1<ds.length→outV (ds.getD k z0Q).dec≠3):=by
 unfold ordF;by_cases h:ds.length<1∨4<ds.length
 ·rw[if_pos h];constructor
  ·intro h;exact absurd h (by decide)
  ·rintro⟨h1,_⟩;omega
 ·rw[if_neg h,z5n];constructor
  ·intro h2;exact⟨by omega,h2⟩
  ·rintro⟨_,h2⟩;exact h2
theorem z2d{ds:List InstE}(h:ordF ds=0):∀x∈ds,insF x=0:=by
 intro x hx;obtain⟨k,hk,rfl⟩:=List.getElem_of_mem hx;have:=(((z2c ds).1 h).2 k hk).1;simpa[List.getD,hk]using this
theorem z6X(ds:List InstE):decN ds≤ds.length:=by
 unfold decN;split<;>omega
def stF(a b:TxnD):Bool:=(a.id==b.id)||((a.session==b.session) && (a.seq==b.seq))
def knw(acc:List TxnD)(t:TxnD):Bool:=acc.any (fun a=>stF a t)
def onc:List TxnD→List TxnD→List TxnD
 |acc,[]=>acc
 |acc,t::r=>onc (if knw acc t then acc else acc++[t]) r
def z3R(ds:List InstE):List TxnD:=ds.flatMap (fun x=>if outV x.dec=1 then x.batch else [])
def defL(ds:List InstE)(n:Nat):List TxnD:=onc [] (z3R (ds.take n))
theorem z1B:∀ (xs ys acc:List TxnD),onc acc (xs++ys)=onc (onc acc xs) ys
 |[],_,_=>rfl
 |t::r,ys,acc=>by
  simp only[List.cons_append,onc];exact z1B r ys _
theorem q1P:∀ (xs acc:List TxnD),∃zs,onc acc xs=acc++zs
 |[],acc=>⟨[],by simp[onc]⟩
 |t::r,acc=>by
  simp only[onc];obtain⟨zs,e⟩:=q1P r (if knw acc t then acc else acc++[t]);rw[e];split
  ·exact⟨zs,rfl⟩
  ·exact⟨t::zs,by simp⟩
theorem z9a:∀ (xs acc:List TxnD),∀t∈onc acc xs,t∈acc∨t∈xs
 |[],acc,t,h=>Or.inl h
 |x::r,acc,t,h=>by
  simp only[onc]at h;rcases z9a r _ t h with h|h
  ·split at h
   ·exact Or.inl h
   ·rcases List.mem_append.1 h with h|h
    ·exact Or.inl h
    ·simp only[List.mem_singleton]at h;exact Or.inr (by rw[h];simp)
  ·exact Or.inr (List.mem_cons_of_mem _ h)
theorem z6Y(xs acc:List TxnD):(onc acc xs).length≤acc.length+xs.length:=by
 induction xs generalizing acc with
 |nil=>simp[onc]
 |cons t r ih=>
  simp only[onc,List.length_cons];have:=ih (if knw acc t then acc else acc++[t]);split at this
  ·rename_i h;rw[if_pos h];omega
  ·rename_i h;rw[if_neg h];simp only[List.length_append,List.length_singleton]at this;omega
theorem q4w(ds:List InstE)(n m:Nat)(h:n≤m):∃zs,defL ds m=defL ds n++zs:=by
 have e:ds.take m=ds.take n++(ds.take m).drop n:=by
  have:=(List.take_append_drop n (ds.take m)).symm
  rwa [List.take_take,Nat.min_eq_left h]at this
 unfold defL;rw[e];unfold z3R;rw[List.flatMap_append,z1B];exact q1P _ _
theorem z8a:(Tryz.prog.info? 117).map (fun i=>(i.zero,i.size,i.bytes))=some (some (.agg #[.bool false,.slice none 0 0,.slice none 0 0,.slice none 0 0]),4,80):=by kernel_rfl
theorem z6Z(v:Value)(ps:List InstQ)(c:Int)(w:World)(h:instK.At w v ps)(hn:ps.length≤9223372036854775807)(M:∀p∈ps,InstQ.wf p)(h0:0≤c)(h1:c≤1048576):
  Calls Tryz.prog 35 #[v,.int .i64 c] w fun e w'=>∃r:Int,e=.returned (.int .i64 r)∧(¬r<0→((ps.length+nmL InstQ.n ps:Nat):Int)+r=c)∧Below w.heap.size w w':=by
 obtain⟨a,cap,rfl⟩:=h.shape;by_cases W:c-ps.length<0
 ·go_enter Tryz.func35,Tryz.ntmps35
  go_wp2
  go_ret;exact⟨_,rfl,fun h=>by omega,Below.refl _ _⟩
 ·go_enter Tryz.func35,Tryz.ntmps35
  go_wp2
  go_loopw[1,5] (fun l i wr=>∃ (k:Nat) (x:Int),k≤ps.length∧i=.int .i64 k∧l=.int .i64 x∧0≤x∧x≤1048576∧Hid (ps.length+nmL InstQ.n (ps.take k)+x=c)∧Below w.heap.size w wr) (fun _ i _=>ps.length-(intOf i).toNat)
  case atStart=>exact⟨0,c-ps.length,Nat.zero_le _,rfl,by go_num,by omega,by omega,show _=_ by simp[nmL];omega,Below.refl _ _⟩
  case round=>
   obtain⟨k,x,hk,rfl,rfl,T,U,HS,hb⟩:=hrel;by_cases z:k<ps.length
   ·obtain⟨b,V,rfl,Y,hc,O⟩:=(h.below hb).cell (by decide) k z;have d:∀j x,(instK.cells ps[k])[j]?=some x→wr.cell? ⟨b,V+k*4+j,none⟩=some x:=hc;have c0:=d 0 (.bool ps[k].has) rfl;have c1:=d 1 (ps[k].vb) rfl;have c2:=d 2 (ps[k].vr) rfl;have c3:=d 3 (ps[k].vd) rfl;have hs:=z1g InstQ.n ps k z;have HN:=M _ (List.getElem_mem z);have A:Hid (∀y:Int,(InstQ.n ps[k]:Int)+y=x→ps.length+nmL InstQ.n (ps.take (k+1))+y=c):=by
     intro y hy;have:=HS.out;omega
    clear HS hs hc d;generalize ps[k]=p at*;have J:=z7L p x wr O HN T U;generalize InstQ.n p=m at*;rw[Nat.add_zero]at c0
    go_wp2_with fail
    refine J.mono ?_;rintro e w2 ⟨r,rfl,hr,C⟩;replace hb:=hb.trans (C.mono hb.size);clear C J c0 c1 c2 c3;by_cases X:r<0
    ·go_wp2
     go_ret;exact⟨_,rfl,fun h=>by omega,hb⟩
    ·have I:=hr (by omega);have HR:Hid (ps.length+nmL InstQ.n (ps.take (k+1))+r=c):=A.out r I;have N:r≤1048576:=by omega
     clear A hr I
     go_wp2
     go_roundw
     case rel=>exact⟨k+1,r,by omega,by go_num,rfl,by omega,N,HR.out,hb⟩
     case measure=>simp[intOf];omega
   ·have L:k=ps.length:=by omega
    subst L;rw[List.take_length]at HS
    go_wp2
    go_ret;exact⟨_,rfl,fun _=>by have:=HS.out;omega,hb⟩
theorem z60(v v':Value)(ps qs:List InstQ)(w:World)(h:instK.At w v ps)(h':instK.At w v' qs)(he:ps.map InstQ.e=qs.map InstQ.e)(hl:(ps.length+nmL InstQ.n ps)≤1048576):
  Calls Tryz.prog 40 #[v,v'] w fun e w'=>e=.returned (.bool true)∧Below w.heap.size w w':=by
 obtain⟨a,cap,rfl⟩:=h.shape;obtain⟨a',V,rfl⟩:=h'.shape;have y:qs.length=ps.length:=by
  have:=congrArg List.length he;simpa using this.symm
 rw[y]at h'⊢;have HL:Hid (qs.length=ps.length):=y;clear y;go_enter Tryz.func40,Tryz.ntmps40
 go_wp2
 go_loopw[5] (fun i wr=>∃k:Nat,k≤ps.length∧i=.int .i64 k∧Below w.heap.size w wr) (fun i _=>ps.length-(intOf i).toNat)
 case atStart=>exact⟨0,Nat.zero_le _,rfl,Below.refl _ _⟩
 case round=>
  obtain⟨k,hk,rfl,hb⟩:=hrel;by_cases C:k<ps.length
  ·have z:k<qs.length:=by have:=HL.out;omega
   obtain⟨b,U,rfl,X,hc,M⟩:=(h.below hb).cell (by decide) k C;obtain⟨b',N,rfl,W,hd,A⟩:=(h'.below hb).cell (by decide) k z;have c:∀j x,(instK.cells ps[k])[j]?=some x→wr.cell? ⟨b,U+k*4+j,none⟩=some x:=hc;have d:∀j x,(instK.cells qs[k])[j]?=some x→wr.cell? ⟨b',N+k*4+j,none⟩=some x:=hd;have c0:=c 0 (.bool ps[k].has) rfl;have d0:=d 0 (.bool qs[k].has) rfl;have c1:=c 1 (ps[k].vb) rfl;have d1:=d 1 (qs[k].vb) rfl;have c2:=c 2 (ps[k].vr) rfl;have d2:=d 2 (qs[k].vr) rfl;have c3:=c 3 (ps[k].vd) rfl;have d3:=d 3 (qs[k].vd) rfl;have L:InstQ.e ps[k]=InstQ.e qs[k]:=by
    have:=congrArg (·[k]?) he;simpa[C,z]using this
   have T:=z1u InstQ.n ps k C;clear hc c hd d;generalize ps[k]=p at*;generalize qs[k]=p' at*;have I:=fun w h1 h2=>z7M p p' w h1 h2 L (show InstQ.n p≤1048576 by omega)
   clear L T;rw[Nat.add_zero]at c0 d0;have k0:=z0f c0;have l0:=z0f d0;have k1:=z0f c1;have l1:=z0f d1;have k2:=z0f c2;have l2:=z0f d2;have k3:=z0f c3;have l3:=z0f d3;clear c0 d0 c1 d1 c2 d2 c3 d3;have hW:Below wr.heap.size wr wr.drew:=(Below.refl _ _).drew;have O:Nonempty (Lat wr):=⟨⟨wr,Below.refl _ _⟩⟩
   go_wp2_with fail
   refine z0e (S:=fun w'=>∃u:Lat wr,w'=u.val) (by kernel_rfl) ?_;refine sgr [(0,8)] 2 (by kernel_rfl) ⟨⟨_,hW⟩,rfl⟩ ?_;simp only[pkE];repeat go_big_quiet_step (fail)
   refine wpQuiet_nil ?_;refine cla 8 (some 25) 83 #[.agg #[.bool p.has,p.vb,p.vr,p.vd],.agg #[.bool p'.has,p'.vb,p'.vr,p'.vd]] 1 (by kernel_rfl) ?_;refine(I _ (instK.rd_below M hW) (instK.rd_below A hW)).mono ?_;rintro e w2 ⟨rfl,J⟩;replace hW:=hW.trans (J.mono hW.size);clear J;refine⟨_,rfl,⟨⟨_,hW⟩,rfl⟩,?_⟩;simp only[Act.put,pjE];refine sgr [(9,1)] 0 (by kernel_rfl) ⟨⟨_,hW⟩,rfl⟩ ?_;simp only[pkE];repeat go_big_quiet_step (fail)
   refine wpQuiet_nil ?_;refine z0i (by kernel_rfl) ?_;replace hb:=hb.trans (hW.mono hb.size);clear k0 l0 k1 l1 k2 l2 k3 l3 hW O M A I
   go_wp2
   go_roundw
   case rel=>exact⟨k+1,by omega,by go_num,hb⟩
   case measure=>simp[intOf];omega
  ·go_wp2
   go_ret;exact⟨rfl,hb⟩
theorem z61(v:Value)(ps:List InstQ)(w:World)(h:instK.At w v ps)(hl:(ps.length+nmL InstQ.n ps)≤1048576):
  Calls Tryz.prog 37 #[v] w fun e w'=>∃v' qs,e=.returned v'∧qs.map InstQ.e=ps.map InstQ.e∧instK.Own w' v' qs∧(instK.fp v' qs).Nodup∧(∀k∈instK.fp v' qs,w.heap.size≤k)∧Below w.heap.size w w':=by
 obtain⟨a,cap,rfl⟩:=h.shape;obtain⟨i0,hi,aq,ar,au⟩:=info_parts z8a;have O:i0.bytes*ps.length≤281474976710656:=by rw[au];omega
 have ag:ps.length≤maxLen:=by unfold maxLen;omega
 go_enter Tryz.func37,Tryz.ntmps37
 go_wp2_with (at_make;refine wpList_make_full _ rfl _ _ 24 rfl w.heap.size 117 i0 (.agg #[.bool false,.slice none 0 0,.slice none 0 0,.slice none 0 0]) 4 Tryz.underlying24 hi aq ar _ _ _ _ ps.length rfl rfl rfl rfl O ag (Nat.le_refl _) ?_)
 intro w1 U L;have ab:Below w.heap.size w w1:=(Below.refl _ _).grown L (Nat.le_refl _) (by simp);have hO:instK.Own w1 (.slice (some ⟨w.heap.size,0,none⟩) ps.length ps.length) (List.replicate ps.length (⟨false,.slice none 0 0,[],.slice none 0 0,[],.slice none 0 0,[]⟩:InstQ)):=by
  refine⟨?_,fun p hp=>?_⟩
  ·rw[List.length_replicate,←z4N (⟨false,.slice none 0 0,[],.slice none 0 0,[],.slice none 0 0,[]⟩:InstQ) _ (by decide)];exact z0o U (Nat.zero_le _)
  ·rw[(List.mem_replicate.1 hp).2];exact⟨⟨World.ownsRow_nil _ _ _ _,fun p hp=>by simp at hp⟩,⟨World.ownsRow_nil _ _ _ _,fun p hp=>by simp at hp⟩,⟨World.ownsRow_nil _ _ _ _,fun p hp=>by simp at hp⟩⟩
 have hF:instK.fp (.slice (some ⟨w.heap.size,0,none⟩) ps.length ps.length) (List.replicate ps.length (⟨false,.slice none 0 0,[],.slice none 0 0,[],.slice none 0 0,[]⟩:InstQ))=[w.heap.size]:=z9C rfl;have HN:Hid ((instK.fp (.slice (some ⟨w.heap.size,0,none⟩) ps.length ps.length) (List.replicate ps.length (⟨false,.slice none 0 0,[],.slice none 0 0,[],.slice none 0 0,[]⟩:InstQ))).Nodup):=by rw[hF];show List.Nodup _;simp
 have HG:Hid (∀x∈instK.fp (.slice (some ⟨w.heap.size,0,none⟩) ps.length ps.length) (List.replicate ps.length (⟨false,.slice none 0 0,[],.slice none 0 0,[],.slice none 0 0,[]⟩:InstQ)),w.heap.size≤x):=by rw[hF];intro x hx;simp at hx;omega
 have HZ:Hid (∀j (hj:j<(List.replicate ps.length (⟨false,.slice none 0 0,[],.slice none 0 0,[],.slice none 0 0,[]⟩:InstQ)).length),0≤j→(List.replicate ps.length (⟨false,.slice none 0 0,[],.slice none 0 0,[],.slice none 0 0,[]⟩:InstQ))[j]=(⟨false,.slice none 0 0,[],.slice none 0 0,[],.slice none 0 0,[]⟩:InstQ)):=fun j hj _=>by simp
 have ah:(List.replicate ps.length (⟨false,.slice none 0 0,[],.slice none 0 0,[],.slice none 0 0,[]⟩:InstQ)).length=ps.length:=by simp
 clear U L hF;generalize List.replicate ps.length (⟨false,.slice none 0 0,[],.slice none 0 0,[],.slice none 0 0,[]⟩:InstQ)=al at*;have HE:Hid ((al.take 0).map InstQ.e=(ps.take 0).map InstQ.e):=show _=_ by simp
 go_wp2
 go_loopw [4] (fun i wr=>∃ (k:Nat) (qs:List InstQ),k≤ps.length∧i=.int .i64 k∧Hid (qs.length=ps.length)∧Hid ((qs.take k).map InstQ.e=(ps.take k).map InstQ.e)∧Hid (∀ j (hj:j < qs.length),k≤j→qs[j]=(⟨false,.slice none 0 0,[],.slice none 0 0,[],.slice none 0 0,[]⟩:InstQ))∧instK.Own wr (.slice (some ⟨w.heap.size,0,none⟩) ps.length ps.length) qs ∧
  Hid ((instK.fp (.slice (some ⟨w.heap.size,0,none⟩) ps.length ps.length) qs).Nodup)∧Hid (∀ x∈instK.fp (.slice (some ⟨w.heap.size,0,none⟩) ps.length ps.length) qs,w.heap.size≤x)∧Below w.heap.size w wr) (fun i _=>ps.length - (intOf i).toNat)
 case atStart=>exact⟨0,al,Nat.zero_le _,rfl,ah,HE,HZ,hO,HN,HG,ab⟩
 case round=>
  clear HE HZ hO HN HG ab ah;obtain⟨k,qs,hk,rfl,HQ,HE,HZ,hO,HN,HG,hb⟩:=hrel;by_cases Y:k<ps.length
  ·have c:k<qs.length:=by have:=HQ.out;omega
   have I:=HZ.out k c (Nat.le_refl _);obtain⟨b,av,rfl,aw,hc,ai⟩:=(h.below hb).cell (by decide) k Y;have J:∀j x,(instK.cells ps[k])[j]?=some x→wr.cell? ⟨b,av+k*4+j,none⟩=some x:=hc;have c0:=J 0 (.bool ps[k].has) rfl;have c1:=J 1 (ps[k].vb) rfl;have c2:=J 2 (ps[k].vr) rfl;have c3:=J 3 (ps[k].vd) rfl;have az:=z1u InstQ.n ps k Y;have aa:Hid (∀p':InstQ,p'.e=InstQ.e ps[k]→((qs.set k p').take (k+1)).map InstQ.e=(ps.take (k+1)).map InstQ.e):=by
    intro p' ao;have h1:=HE.out;rw[List.take_succ_eq_append_getElem Y,List.take_succ_eq_append_getElem (show k<(qs.set k p').length by simpa using c)];simp only[List.map_append,List.map_cons,List.map_nil,List.getElem_set_self,ao,List.take_set_of_le (Nat.le_refl k),h1]
   clear hc J;generalize ps[k]=p at*;have aj:=z7N p wr ai (by omega);rw[Nat.add_zero]at c0
   go_wp2_with fail
   refine aj.mono ?_;rintro e w2 ⟨p',rfl,Z,d,M,y,ad⟩;obtain⟨x0,x1,y1,x2,y2,x3,y3⟩:=p';obtain⟨o1,o2,o3⟩:txnK.Own w2 x1 y1∧roundK.Own w2 x2 y2∧intK.Own w2 x3 y3:=And.intro d.1 d.2;obtain⟨a1,b1,rfl⟩:=o1.shape;obtain⟨a2,b2,rfl⟩:=o2.shape;obtain⟨a3,b3,rfl⟩:=o3.shape;clear o1 o2 o3;dsimp only;generalize hP:(⟨x0,.slice a1 y1.length b1,y1,.slice a2 y2.length b2,y2,.slice a3 y3.length b3,y3⟩:InstQ)=p' at Z d M y;have W:instK.cells p'=[.bool x0,.slice a1 y1.length b1,.slice a2 y2.length b2,.slice a3 y3.length b3]:=by rw[←hP];rfl
   have z:=hO.below ad;obtain⟨e0,f0⟩:=z.cell k c 0 _ (by rw[I];rfl);obtain⟨e1,f1⟩:=z.cell k c 1 _ (by rw[I];rfl);obtain⟨e2,f2⟩:=z.cell k c 2 _ (by rw[I];rfl);obtain⟨e3,f3⟩:=z.cell k c 3 _ (by rw[I];rfl);have af:∀j,k*instK.size+j=k*4+j:=fun j=>rfl
   rw[af]at e0 f0 e1 f1 e2 f2 e3 f3;rw[Nat.add_zero]at e0 f0;have A:=z.1;have hQ:=HQ.out;rw[hQ]at A;have C:=z16 A (k*4) [.bool x0,.slice a1 y1.length b1,.slice a2 y2.length b2,.slice a3 y3.length b3];rw[←W]at C;have X:∀x∈instK.fp (.slice (some ⟨w.heap.size,0,none⟩) ps.length ps.length) qs,x<wr.heap.size:=hO.lt;have ae:w.heap.size∈instK.fp (.slice (some ⟨w.heap.size,0,none⟩) ps.length ps.length) qs:=by simp[Kind.fp,blk,Value.ownBlock]
   have ax:w.heap.size<wr.heap.size:=X _ ae;have N:=HN.out;have T:∀x∈instK.foot p',x∉instK.fp (.slice (some ⟨w.heap.size,0,none⟩) ps.length ps.length) qs:=fun x hx ap=>by have:=y x hx;have:=X x ap;omega
   have V:instK.Own ((((w2.setCell ⟨w.heap.size,k*4,none⟩ (.bool x0)).setCell ⟨w.heap.size,k*4+1,none⟩ (.slice a1 y1.length b1)).setCell ⟨w.heap.size,k*4+2,none⟩ (.slice a2 y2.length b2)).setCell ⟨w.heap.size,k*4+3,none⟩ (.slice a3 y3.length b3)) (.slice (some ⟨w.heap.size,0,none⟩) ps.length ps.length) (qs.set k p'):=by
    refine Kind.Own.put z k c p' ?_ ((((Out.setCell _ _ _ _).trans (Out.setCell _ _ _ _)).trans (Out.setCell _ _ _ _)).trans (Out.setCell _ _ _ _)) ?_ d ?_
    ·rw[hQ];rw[W]at C⊢;exact C
    ·intro q hq x hx ak;simp only[Kind.fp,blk,Value.ownBlock,Option.toList,List.cons_append,List.nil_append,List.nodup_cons]at N;exact N.1 (List.mem_flatMap.2 ⟨q,hq,ak▸hx⟩)
    ·intro x hx ak;have:=y x hx;omega
   have R:Hid (instK.Own ((((w2.setCell ⟨w.heap.size,k*4,none⟩ (.bool x0)).setCell ⟨w.heap.size,k*4+1,none⟩ (.slice a1 y1.length b1)).setCell ⟨w.heap.size,k*4+2,none⟩ (.slice a2 y2.length b2)).setCell ⟨w.heap.size,k*4+3,none⟩ (.slice a3 y3.length b3)) (.slice (some ⟨w.heap.size,0,none⟩) ps.length ps.length) (qs.set k p')∧Below w.heap.size w ((((w2.setCell ⟨w.heap.size,k*4,none⟩ (.bool x0)).setCell ⟨w.heap.size,k*4+1,none⟩ (.slice a1 y1.length b1)).setCell ⟨w.heap.size,k*4+2,none⟩ (.slice a2 y2.length b2)).setCell ⟨w.heap.size,k*4+3,none⟩ (.slice a3 y3.length b3))):=by
    refine⟨V,?_⟩;have am:=hb.trans (ad.mono hb.size);exact((((am.setCell (p:=⟨w.heap.size,k*4,none⟩) (Nat.le_refl _) _).setCell (p:=⟨w.heap.size,k*4+1,none⟩) (Nat.le_refl _) _).setCell (p:=⟨w.heap.size,k*4+2,none⟩) (Nat.le_refl _) _).setCell (p:=⟨w.heap.size,k*4+3,none⟩) (Nat.le_refl _) _)
   have R1:Hid ((instK.fp (.slice (some ⟨w.heap.size,0,none⟩) ps.length ps.length) (qs.set k p')).Nodup):=z3v N k c p' (by rw[I];rfl) M T;have R2:Hid (∀x∈instK.fp (.slice (some ⟨w.heap.size,0,none⟩) ps.length ps.length) (qs.set k p'),w.heap.size≤x):=by
    intro x hx;simp only[Kind.fp,List.mem_append]at hx;rcases hx with hx|hx
    ·exact HG.out x (by simp only[Kind.fp,List.mem_append];exact Or.inl hx)
    ·rcases z1K c hx with hx|hx
     ·exact HG.out x (by simp only[Kind.fp,List.mem_append];exact Or.inr hx)
     ·have:=y x hx;omega
   have R3:Hid (∀j (hj:j<(qs.set k p').length),k+1≤j→(qs.set k p')[j]=(⟨false,.slice none 0 0,[],.slice none 0 0,[],.slice none 0 0,[]⟩:InstQ)):=fun j hj ay=>by
    rw[List.getElem_set_ne (by omega)];exact HZ.out j (by simpa using hj) (by omega)
   have R4:Hid ((qs.set k p').length=ps.length):=by rw[List.length_set];exact HQ.out
   have R5:Hid (((qs.set k p').take (k+1)).map InstQ.e=(ps.take (k+1)).map InstQ.e):=aa.out p' Z;clear V C A hQ z hO HN HG HZ HE HQ aa N T d M y X ae hb I ai aj Z af W hP
   go_wp2
   go_roundw
   case rel=>exact⟨k+1,qs.set k p',by omega,by go_num,R4.out,R5.out,R3.out,R.out.1,R1.out,R2.out,R.out.2⟩
   case measure=>simp[intOf];omega
  ·have an:k=ps.length:=by omega
   subst an;have hQ:=HQ.out;have hE:=HE.out;rw[List.take_length,List.take_of_length_le (by omega)]at hE;clear HE HZ
   go_wp2
   go_ret;exact⟨_,qs,rfl,hE,hO,HN.out,HG.out,hb⟩
theorem q4x(c v:Int)(w:World):(Instr.field 53 (.agg #[.int .i64 c,.int .i64 v]) 0).run Tryz.prog w=.ok (.int .i64 c) w:=by kernel_rfl
theorem q4y(c v:Int)(w:World):(Instr.field 53 (.agg #[.int .i64 c,.int .i64 v]) 1).run Tryz.prog w=.ok (.int .i64 v) w:=by kernel_rfl
theorem q5k(x:InstE):(ocC x==0)=((insF x==0) && (outV x.dec !=3)):=by
 unfold ocC;by_cases h0:insF x=0
 ·rw[if_pos h0,h0];by_cases h3:outV x.dec=3
  ·rw[if_pos h3,h3];rfl
  ·rw[if_neg h3];have:(outV x.dec !=3)=true:=by simpa using h3
   rw[this];rfl
 ·rw[if_neg h0];have:(insF x==0)=false:=by simpa using h0
  rw[this];rfl
theorem z5o(ps:List InstQ)(k:Nat)(hk:k<ps.length):(ps.map InstQ.e).getD k z0Q=InstQ.e ps[k]:=by simp[List.getD,hk]
theorem z6p(ps:List InstQ)(k:Nat)(hk:k<ps.length):InstQ.n ps[k]≤nmL InstQ.n ps:=z1u InstQ.n ps k hk
theorem z62{w:World}{a:Option Addr}{n cap:Nat}{ps:List InstQ}(h:instK.At w (.slice a n cap) ps)(k:Nat)(hk:k<ps.length):∃b off,a=some ⟨b,off,none⟩∧b<w.heap.size∧InstP w b (off+k*4) ps[k]:=by
 obtain⟨b,off,e,hb,hc,hrd⟩:=h.cell (by decide) k hk;have hc':∀j x,(instK.cells ps[k])[j]?=some x→w.cell? ⟨b,off+k*4+j,none⟩=some x:=hc;exact⟨b,off,e,hb,⟨hc' 0 (.bool ps[k].has) rfl,hc' 1 ps[k].vb rfl,hc' 2 ps[k].vr rfl,hc' 3 ps[k].vd rfl⟩,hrd⟩
theorem z3a(p:InstQ)(w:World)(hG:Rul w)(h:instK.rd w p)(hl:p.n≤1048576):
  Calls Tryz.prog 77 #[.agg #[.bool p.has,p.vb,p.vr,p.vd]] w fun e w'=>e=.returned (.bool (ocC p.e==0))∧Below w.heap.size w w':=by
 have y:=fun w hG h=>z2z p w hG h hl
 have z:=fun(w':World) hb=>instK.rd_below (w':=w') h hb
 generalize ocC p.e=D at*;generalize ocV p.e=E at*;obtain⟨has,vb,x,vr,d,vd,dec⟩:=p;obtain⟨ba,bk,rfl⟩:∃a c,vb=.slice a x.length c:=h.1.shape;obtain⟨va,vk,rfl⟩:∃a c,vr=.slice a d.length c:=h.2.1.shape;obtain⟨da,dk,rfl⟩:∃a c,vd=.slice a dec.length c:=h.2.2.shape;dsimp only at y z;have C:=q4x D E;have hB:Below w.heap.size w (w.alloc (.cells #[.bool has,.slice ba x.length bk,.slice va d.length vk,.slice da dec.length dk] 117)):=by go_grown
 go_enter Tryz.func77,Tryz.ntmps77
 go_wp2_with fail
 generalize w.alloc (.cells #[.bool has,.slice ba x.length bk,.slice va d.length vk,.slice da dec.length dk] 117)=W at*;refine(y W (hG.below hB) (z W hB)).mono ?_;rintro e w1 ⟨rfl,A⟩;replace hB:=hB.trans (A.mono hB.size)
 go_wp2
 go_ret;exact⟨rfl,hB⟩
theorem z3G(v:Value)(ps:List InstQ)(w:World)(hG:Rul w)(h:instK.At w v ps)(hl:(ps.length+nmL InstQ.n ps)≤1048576):
  Calls Tryz.prog 76 #[v] w fun e w'=>e=.returned (.int .i64 (ordF (ps.map InstQ.e)))∧Below w.heap.size w w':=by
 obtain⟨a,cap,rfl⟩:=h.shape;generalize hE:ordF (ps.map InstQ.e)=E;have HE:Hid (ordF (ps.map InstQ.e)=E):=hE;clear hE;by_cases z:ps.length<1∨4<ps.length
 ·have E1:Hid (E=2):=by
   have:=HE.out;unfold ordF at this;rw[if_pos (by simpa using z)]at this;exact this.symm
  clear HE;rcases z with z|z
  ·go_enter Tryz.func76,Tryz.ntmps76
   go_wp2
   go_ret;exact⟨by rw[E1.out];rfl,Below.refl _ _⟩
  ·have h1:¬ps.length<1:=by omega
   go_enter Tryz.func76,Tryz.ntmps76
   go_wp2
   go_ret;exact⟨by rw[E1.out];rfl,Below.refl _ _⟩
 ·have HG:Hid (E=z1E (ps.map InstQ.e)):=by
   have:=HE.out;unfold ordF at this;rw[if_neg (by simpa using z)]at this;exact this.symm
  have h1:¬ps.length<1:=by omega
  have h4:ps.length≤4:=by omega
  clear HE z;go_enter Tryz.func76,Tryz.ntmps76
  go_wp2
  go_loopw[16] (fun i wr=>∃k:Nat,k≤ps.length∧i=.int .i64 k∧Hid (E=z1E ((ps.map InstQ.e).drop k))∧Below w.heap.size w wr) (fun i _=>ps.length-(intOf i).toNat)
  case atStart=>exact⟨0,Nat.zero_le _,rfl,HG,Below.refl _ _⟩
  case round=>
   clear HG;obtain⟨k,hk,rfl,HG,hb⟩:=hrel;by_cases U:k<ps.length
   ·have L:=z5o ps k U;have I:Hid (insF (InstQ.e ps[k])≠0→E=insF (InstQ.e ps[k])):=fun hx=>by
     rw[HG.out,z78 _ k (by simpa using U) (by rw[L];exact hx),L]
    have J:Hid (k+1<ps.length→insF (InstQ.e ps[k])=0→outV (InstQ.e ps[k]).dec=3→E=8):=fun h1 h2 h3=>by
     rw[HG.out,z6n _ k (by simpa using h1) (by rw[L];exact h2) (by rw[L];exact h3)]
    have y:Hid (insF (InstQ.e ps[k])=0→¬(k+1<ps.length∧outV (InstQ.e ps[k]).dec=3)→E=z1E ((ps.map InstQ.e).drop (k+1))):=fun h2 h3=>by
     rw[HG.out,z6o _ k (by simpa using U) (by rw[L];exact h2) (by rw[L];simpa using h3)]
    have hn:InstQ.n ps[k]≤1048576:=by have:=z6p ps k U;omega
    have Y:=z2y ps[k];have X:=z3a ps[k];have Z:=fun w hG h=>Y w hG h hn
    have T:=fun w hG h=>X w hG h hn
    clear Y X;have M:=q5k (InstQ.e ps[k]);clear L HG;obtain⟨b,ah,rfl,aj,hc,W⟩:=(h.below hb).cell (by decide) k U;have O:∀j x,(instK.cells ps[k])[j]?=some x→wr.cell? ⟨b,ah+k*4+j,none⟩=some x:=hc;have c0:=O 0 (.bool ps[k].has) rfl;have c1:=O 1 ps[k].vb rfl;have c2:=O 2 ps[k].vr rfl;have c3:=O 3 ps[k].vd rfl;rw[Nat.add_zero]at c0;clear hc O;have aa:=fun(w':World) hb=>instK.rd_below (w':=w') W hb
    generalize ocC (InstQ.e ps[k])=OC at*;generalize outV (InstQ.e ps[k]).dec=OV at*;generalize insF (InstQ.e ps[k])=C at*;generalize ps[k]=p at*;obtain⟨has,vb,A,vr,d,vd,dec⟩:=p;obtain⟨ba,bk,rfl⟩:∃a c,vb=.slice a A.length c:=W.1.shape;obtain⟨va,vk,rfl⟩:∃a c,vr=.slice a d.length c:=W.2.1.shape;obtain⟨da,dk,rfl⟩:∃a c,vd=.slice a dec.length c:=W.2.2.shape;dsimp only at c0 c1 c2 c3 Z T aa;have N:Below wr.heap.size wr (wr.alloc (.cells #[.bool has,.slice ba A.length bk,.slice va d.length vk,.slice da dec.length dk] 117)):=by go_grown
    have Bk:=Blk.new wr 117 #[.bool has,.slice ba A.length bk,.slice va d.length vk,.slice da dec.length dk];have ab:=aa _ N
    go_wp2_with fail
    generalize wr.alloc (.cells #[.bool has,.slice ba A.length bk,.slice va d.length vk,.slice da dec.length dk] 117)=W1 at*;refine(Z W1 (hG.below (hb.trans (N.mono hb.size))) ab).mono ?_;rintro e w2 ⟨rfl,V⟩;have af:=instK.rd_below ab V;replace Bk:=Bk.below V;replace hb:=(hb.trans (N.mono hb.size)).trans (V.mono (hb.trans (N.mono hb.size)).size);clear N V ab Z c0 c1 c2 c3 aa;by_cases hC:C=0
    ·subst hC;by_cases ae:k+1<ps.length
     ·have ag:(k:Int)<(ps.length:Int)-1:=by omega
      obtain⟨p0,p1,p2,p3⟩:=Bk.cel4
      go_wp2_with fail
      refine(T w2 (hG.below hb) af).mono ?_;rintro e w3 ⟨rfl,ad⟩;replace hb:=hb.trans (ad.mono hb.size);clear ad T p0 p1 p2 p3 Bk af;by_cases hO:OV=3
      ·have e1:(OC==0)=false:=by rw[M,hO];rfl
       have E1:Hid (E=8):=J.out ae (by simp) hO;clear M J y I
       go_wp2
       go_ret;exact⟨by rw[E1.out];rfl,hb⟩
      ·have e1:(OC==0)=true:=by
        rw[M];have:(OV !=3)=true:=by simpa using hO
        rw[this];rfl
       have E1:Hid (E=z1E ((ps.map InstQ.e).drop (k+1))):=y.out (by simp) (fun h=>hO h.2);clear M J y I
       go_wp2
       go_roundw
       case rel=>exact⟨k+1,by omega,by go_num,E1.out,hb⟩
       case measure=>simp[intOf];omega
     ·have ag:¬(k:Int)<(ps.length:Int)-1:=by omega
      have E1:Hid (E=z1E ((ps.map InstQ.e).drop (k+1))):=y.out (by simp) (fun h=>ae h.1);clear M J y I T
      go_wp2
      go_roundw
      case rel=>exact⟨k+1,by omega,by go_num,E1.out,hb⟩
      case measure=>simp[intOf];omega
    ·have ai:(C !=0)=true:=by simpa using hC
     have E1:Hid (E=C):=I.out hC;clear M J y I T
     go_wp2
     go_ret;exact⟨by rw[E1.out];rfl,hb⟩
   ·have E1:Hid (E=0):=by rw[HG.out];exact z79 _ k (by simp;omega)
    clear HG
    go_wp2
    go_ret;exact⟨by rw[E1.out];rfl,hb⟩
theorem z9b(v:Value)(ps:List InstQ)(w:World)(h:instK.At w v ps)(hl:(ps.length+nmL InstQ.n ps)≤1048576):
  Calls Tryz.prog 107 #[v] w fun e w'=>e=.returned (.int .i64 (ordF (ps.map InstQ.e)))∧Below w.heap.size w w':=by
 obtain⟨a,cap,rfl⟩:=h.shape;generalize hE:ordF (ps.map InstQ.e)=E;have HE:Hid (ordF (ps.map InstQ.e)=E):=hE;clear hE;by_cases x:ps.length<1∨4<ps.length
 ·have E1:Hid (E=2):=by
   have:=HE.out;unfold ordF at this;rw[if_pos (by simpa using x)]at this;exact this.symm
  clear HE;rcases x with x|x
  ·go_enter Tryz.func107,Tryz.ntmps107
   go_wp2
   go_ret;exact⟨by rw[E1.out];rfl,Below.refl _ _⟩
  ·have h1:¬ps.length<1:=by omega
   go_enter Tryz.func107,Tryz.ntmps107
   go_wp2
   go_ret;exact⟨by rw[E1.out];rfl,Below.refl _ _⟩
 ·have HG:Hid (E=z1E (ps.map InstQ.e)):=by
   have:=HE.out;unfold ordF at this;rw[if_neg (by simpa using x)]at this;exact this.symm
  have h1:¬ps.length<1:=by omega
  have h4:ps.length≤4:=by omega
  clear HE x;go_enter Tryz.func107,Tryz.ntmps107
  go_wp2
  go_loopw[3] (fun i wr=>∃k:Nat,k≤ps.length∧i=.int .i64 k∧Hid (E=z1E ((ps.map InstQ.e).drop k))∧Below w.heap.size w wr) (fun i _=>ps.length-(intOf i).toNat)
  case atStart=>exact⟨0,Nat.zero_le _,rfl,HG,Below.refl _ _⟩
  case round=>
   clear HG;obtain⟨k,hk,rfl,HG,hb⟩:=hrel;by_cases A:k<ps.length
   ·have z:=z5o ps k A;have y:Hid (insF (InstQ.e ps[k])≠0→E=insF (InstQ.e ps[k])):=fun hx=>by
     rw[HG.out,z78 _ k (by simpa using A) (by rw[z];exact hx),z]
    have d:Hid (k+1<ps.length→insF (InstQ.e ps[k])=0→outV (InstQ.e ps[k]).dec=3→E=8):=fun h1 h2 h3=>by
     rw[HG.out,z6n _ k (by simpa using h1) (by rw[z];exact h2) (by rw[z];exact h3)]
    have c:Hid (insF (InstQ.e ps[k])=0→¬(k+1<ps.length∧outV (InstQ.e ps[k]).dec=3)→E=z1E ((ps.map InstQ.e).drop (k+1))):=fun h2 h3=>by
     rw[HG.out,z6o _ k (by simpa using A) (by rw[z];exact h2) (by rw[z];simpa using h3)]
    obtain⟨b,U,rfl,Y,hP⟩:=z62 (h.below hb) k A;have hn:InstQ.n ps[k]≤1048576:=by have:=z6p ps k A;omega
    have L:=z85 b (U+k*4) ps[k];have J:=z2b b (U+k*4) ps[k];have N:=fun w hP=>L w hP hn
    have I:=fun w hP=>J w hP hn
    clear L J;have T:outV (InstQ.e ps[k]).dec=outV ps[k].dec:=rfl;rw[T]at d c;clear z HG T;generalize outV ps[k].dec=OV at*;generalize insF (InstQ.e ps[k])=C at*;generalize ps[k]=p at*
    go_wp2_with fail
    refine(N wr hP).mono ?_;rintro e w2 ⟨rfl,M⟩;replace hP:=hP.below M;replace hb:=hb.trans (M.mono hb.size);clear M N;by_cases hC:C=0
    ·subst hC;by_cases O:k+1<ps.length
     ·have W:(k:Int)<(ps.length:Int)-1:=by omega
      go_wp2_with fail
      refine(I w2 hP).mono ?_;rintro e w3 ⟨rfl,hw⟩;replace hw:=hw.symm;subst hw;clear I hP;by_cases hO:OV=3
      ·have E1:Hid (E=8):=d.out O (by simp) hO;have V:(OV==3)=true:=by simpa using hO
       clear d c y hO
       go_wp2
       go_ret;exact⟨by rw[E1.out];rfl,hb⟩
      ·have V:(OV==3)=false:=by simpa using hO
       have E1:Hid (E=z1E ((ps.map InstQ.e).drop (k+1))):=c.out (by simp) (fun h=>hO h.2);clear d c y hO
       go_wp2
       go_roundw
       case rel=>exact⟨k+1,by omega,by go_num,E1.out,hb⟩
       case measure=>simp[intOf];omega
     ·have W:¬(k:Int)<(ps.length:Int)-1:=by omega
      have E1:Hid (E=z1E ((ps.map InstQ.e).drop (k+1))):=c.out (by simp) (fun h=>O h.1);clear d c y I
      go_wp2
      go_roundw
      case rel=>exact⟨k+1,by omega,by go_num,E1.out,hb⟩
      case measure=>simp[intOf];omega
    ·have X:(C !=0)=true:=by simpa using hC
     have E1:Hid (E=C):=y.out hC;clear d c y I
     go_wp2
     go_ret;exact⟨by rw[E1.out];rfl,hb⟩
   ·have E1:Hid (E=0):=by rw[HG.out];exact z79 _ k (by simp;omega)
    clear HG
    go_wp2
    go_ret;exact⟨by rw[E1.out];rfl,hb⟩
def diV(ds:List InstE):Int:=if ordF ds=0 then(decN ds:Int)else 0
theorem z65(ps:List InstQ)(hlt:ps.length-1<ps.length):q4v (ps.map InstQ.e)=InstQ.e ps[ps.length-1]:=by
 unfold q4v;rw[List.length_map];exact z5o ps _ hlt
theorem z1U(v:Value)(ps:List InstQ)(w:World)(hG:Rul w)(h:instK.At w v ps)(hl:(ps.length+nmL InstQ.n ps)≤1048576):
  Calls Tryz.prog 33 #[v] w fun e w'=>e=.returned (.agg #[.int .i64 (ordF (ps.map InstQ.e)),.int .i64 (diV (ps.map InstQ.e))])∧Below w.heap.size w w':=by
 have aa:=fun w hG h=>z3G v ps w hG h hl
 have HO:Hid (ordF (ps.map InstQ.e)=0→1≤ps.length∧ps.length≤4∧∀q∈ps,insF (InstQ.e q)=0):=fun h0=>by
  have:=((z2c _).1 h0).1;rw[List.length_map]at this;exact⟨this.1,this.2,fun q hq=>z2d h0 _ (List.mem_map.2 ⟨q,hq,rfl⟩)⟩
 have HV:Hid ((ordF (ps.map InstQ.e)=0→diV (ps.map InstQ.e)=(decN (ps.map InstQ.e):Int))∧(ordF (ps.map InstQ.e)≠0→diV (ps.map InstQ.e)=0)):=⟨fun h0=>if_pos h0,fun h0=>if_neg h0⟩
 obtain⟨a,cap,rfl⟩:=h.shape;generalize ordF (ps.map InstQ.e)=C at*;generalize diV (ps.map InstQ.e)=V at*;have hB:Below w.heap.size w (w.alloc (.cells #[.int .i64 0,.int .i64 0] 53)):=by go_grown
 have Rb:=Blk.new w 53 #[.int .i64 0,.int .i64 0];go_enter Tryz.func33,Tryz.ntmps33
 go_wp2_with fail
 generalize w.alloc (.cells #[.int .i64 0,.int .i64 0] 53)=W at*;refine(aa W (hG.below hB) (h.below hB)).mono ?_;rintro e w1 ⟨rfl,hb⟩;replace hB:=hB.trans (hb.mono hB.size);replace Rb:=Rb.below hb;clear hb aa;by_cases hC:C=0
 ·obtain⟨h1,h4,Z⟩:=HO.out hC;have hv:=HV.out.1 hC;subst hC;have y:ps.length-1<ps.length:=by omega
  have O:=Z _ (List.getElem_mem y);have z:=q5k (InstQ.e ps[ps.length-1]);have I:Hid (outV (InstQ.e ps[ps.length-1]).dec=3→V=(ps.length:Int)-1):=fun h3=>by
   rw[hv];unfold decN;rw[z65 ps y,if_pos h3,List.length_map];omega
  have J:Hid (outV (InstQ.e ps[ps.length-1]).dec≠3→V=(ps.length:Int)):=fun h3=>by
   rw[hv];unfold decN;rw[z65 ps y,if_neg h3,List.length_map]
  rw[O]at z;have hn:InstQ.n ps[ps.length-1]≤1048576:=by have:=z6p ps _ y;omega
  have N:=z3a ps[ps.length-1];have X:=fun w hG h=>N w hG h hn
  clear N Z O hv HV HO hn;obtain⟨b,ad,rfl,af,hc,L⟩:=(h.below hB).cell (by decide) (ps.length-1) y;have d:∀j x,(instK.cells ps[ps.length-1])[j]?=some x→w1.cell? ⟨b,ad+(ps.length-1)*4+j,none⟩=some x:=hc;have c0:=d 0 (.bool ps[ps.length-1].has) rfl;have c1:=d 1 ps[ps.length-1].vb rfl;have c2:=d 2 ps[ps.length-1].vr rfl;have c3:=d 3 ps[ps.length-1].vd rfl;rw[Nat.add_zero]at c0;clear hc d;have Y:((ps.length:Int)-1).toNat=ps.length-1:=by omega
  generalize ocC (InstQ.e ps[ps.length-1])=OC at*;generalize outV (InstQ.e ps[ps.length-1]).dec=OV at*;generalize ps[ps.length-1]=p at*;generalize hm:ps.length-1=m at*;have ab:(ps.length:Int)-1=(m:Int):=by omega
  have A:ps.length=m+1:=by omega
  rw[ab]at I;rw[A]at h4 J⊢;rw[A]at*;clear hm Y ab A;obtain⟨has,vb,T,vr,M,vd,dec⟩:=p;obtain⟨ba,bk,rfl⟩:∃a c,vb=.slice a T.length c:=L.1.shape;obtain⟨va,vk,rfl⟩:∃a c,vr=.slice a M.length c:=L.2.1.shape;obtain⟨da,dk,rfl⟩:∃a c,vd=.slice a dec.length c:=L.2.2.shape;dsimp only at c0 c1 c2 c3 X;obtain⟨q0,q1⟩:=Rb.cel2;obtain⟨f0,f1⟩:=Rb.frz2;clear q0 q1 f0 f1
  go_wp2_with fail
  refine(X w1 (hG.below hB) L).mono ?_;rintro e w3 ⟨rfl,U⟩;replace hB:=hB.trans (U.mono hB.size);replace Rb:=Rb.below U;obtain⟨q0,q1⟩:=Rb.cel2;obtain⟨f0,f1⟩:=Rb.frz2;clear U X c0 c1 c2 c3;by_cases hO:OV=3
  ·have e1:(OC==0)=false:=by rw[z,hO];rfl
   have E1:Hid (V=(m:Int)):=I.out hO;clear z I J
   go_wp2
   exact bodyPost_ret (v:=.agg #[.int .i64 0,.int .i64 m]) (by simp[results,Tryz.results33,go_sem,q0,q1]) rfl ⟨by rw[E1.out],(hB.setCell (p:=⟨w.heap.size,0,none⟩) (Nat.le_refl _) _).setCell (p:=⟨w.heap.size,1,none⟩) (Nat.le_refl _) _⟩
  ·have e1:(OC==0)=true:=by
    rw[z];have:(OV !=3)=true:=by simpa using hO
    rw[this];rfl
   have E1:Hid (V=(m:Int)+1):=by have:=J.out hO;exact this.trans (by omega)
   clear z I J
   go_wp2
   exact bodyPost_ret (v:=.agg #[.int .i64 0,.int .i64 ((m:Int)+1)]) (by simp[results,Tryz.results33,go_sem,q0,q1]) rfl ⟨by rw[E1.out],(hB.setCell (p:=⟨w.heap.size,0,none⟩) (Nat.le_refl _) _).setCell (p:=⟨w.heap.size,1,none⟩) (Nat.le_refl _) _⟩
 ·have E1:Hid (V=0):=HV.out.2 hC;have ae:(C !=0)=true:=by simpa using hC
  obtain⟨q0,q1⟩:=Rb.cel2;obtain⟨f0,f1⟩:=Rb.frz2;clear HV HO
  go_wp2
  exact bodyPost_ret (v:=.agg #[.int .i64 C,.int .i64 0]) (by simp[results,Tryz.results33,go_sem,q0,q1]) rfl ⟨by rw[E1.out],(hB.setCell (p:=⟨w.heap.size,0,none⟩) (Nat.le_refl _) _).setCell (p:=⟨w.heap.size,1,none⟩) (Nat.le_refl _) _⟩
theorem z66(v:Value)(ps:List InstQ)(w:World)(h:instK.At w v ps)(hl:(ps.length+nmL InstQ.n ps)≤1048576)(h1:1≤ps.length)(h4:ps.length≤4):
  Calls Tryz.prog 72 #[v] w fun e w'=>e=.returned (.int .i64 (decN (ps.map InstQ.e)))∧Below w.heap.size w w':=by
 obtain⟨a,cap,rfl⟩:=h.shape;have c:ps.length-1<ps.length:=by omega
 obtain⟨V,hv⟩:∃V:Int,(decN (ps.map InstQ.e):Int)=V:=⟨_,rfl⟩
 have d:Hid (outV ps[ps.length-1].dec=3→V=(ps.length:Int)-1):=fun h3=>by
  rw[←hv];unfold decN;rw[z65 ps c,if_pos (show outV (InstQ.e ps[ps.length-1]).dec=3 from h3),List.length_map];omega
 have x:Hid (outV ps[ps.length-1].dec≠3→V=(ps.length:Int)):=fun h3=>by
  rw[←hv];unfold decN;rw[z65 ps c,if_neg (show¬outV (InstQ.e ps[ps.length-1]).dec=3 from h3),List.length_map]
 rw[hv];have hn:InstQ.n ps[ps.length-1]≤1048576:=by have:=z6p ps _ c;omega
 obtain⟨b,I,rfl,J,hP⟩:=z62 h (ps.length-1) c;have y:=z2b b (I+(ps.length-1)*4) ps[ps.length-1];have A:=y w hP hn;clear y hn hv h;generalize outV ps[ps.length-1].dec=OV at*;generalize ps[ps.length-1]=p at*;generalize hm:ps.length-1=m at*;have C:(ps.length:Int)-1=(m:Int):=by omega
 have z:ps.length=m+1:=by omega
 rw[C]at d;rw[z]at h4 x⊢;clear hm C z hl h1 c;go_enter Tryz.func72,Tryz.ntmps72
 go_wp2_with fail
 refine A.mono ?_;rintro e w3 ⟨rfl,hw⟩;replace hw:=hw.symm;subst hw;clear A hP;by_cases hO:OV=3
 ·have e1:(OV==3)=true:=by simpa using hO
  have E1:Hid (V=(m:Int)):=d.out hO;clear d x hO
  go_wp2
  go_ret;exact⟨by rw[E1.out];rfl,Below.refl _ _⟩
 ·have e1:(OV==3)=false:=by simpa using hO
  have E1:Hid (V=(m:Int)+1):=by have:=x.out hO;exact this.trans (by omega)
  clear d x hO
  go_wp2
  go_ret;exact⟨by rw[E1.out];rfl,Below.refl _ _⟩
theorem z2e(v:Value)(ps:List TxnQ)(w:World)(h:txnK.At w v ps)(az:∀p∈ps,0<p.acts.length)(hl:ps.length+nmL TxnQ.n ps≤1048576):
  Calls Tryz.prog 73 #[v] w fun e w'=>∃v' qs,e=.returned v'∧qs.map TxnQ.e=ps.map TxnQ.e∧txnK.Own w' v' qs∧(txnK.fp v' qs).Nodup∧(∀k∈txnK.fp v' qs,w.heap.size≤k)∧Below w.heap.size w w':=by
 obtain⟨a,cap,rfl⟩:=h.shape;obtain⟨i0,hi,aD,aE,aF⟩:=info_parts z1p;obtain⟨ak,al⟩:=Kind.own_nil (K:=txnK) w;have ad:Hid ((txnK.fp (.slice none 0 0) ([]:List TxnQ)).Nodup∧∀k∈txnK.fp (.slice none 0 0) ([]:List TxnQ),w.heap.size≤k):=by
  rw[al];exact⟨by simp,by simp⟩
 clear al;go_enter Tryz.func73,Tryz.ntmps73
 go_wp2
 go_loopw[3,8] (fun v j wr=>∃ (k:Nat) (qs:List TxnQ),k≤ps.length∧j=.int .i64 k∧Hid (qs.map TxnQ.e=(ps.take k).map TxnQ.e)∧txnK.Own wr v qs∧Hid ((txnK.fp v qs).Nodup∧∀k∈txnK.fp v qs,w.heap.size≤k)∧Below w.heap.size w wr) (fun _ j _=>ps.length-(intOf j).toNat)
 case atStart=>exact⟨0,[],Nat.zero_le _,rfl,(rfl:_=_),ak,ad,Below.refl _ _⟩
 case round=>
  clear ad ak;obtain⟨k,qs,hk,rfl,HE,hO,HN,hb⟩:=hrel;obtain⟨sa,sc,rfl⟩:=hO.shape;have af:Hid (qs.length=k):=by
   have:=congrArg List.length HE.out;rw[List.length_map,List.length_map,List.length_take]at this;show qs.length=k;omega
  by_cases O:k<ps.length
  ·obtain⟨b,aG,rfl,aI,hc,d⟩:=(h.below hb).cell (by decide) k O;have A:∀j x,(txnK.cells ps[k])[j]?=some x→wr.cell? ⟨b,aG+k*4+j,none⟩=some x:=hc;have c0:=A 0 (.int .i64 ps[k].i) rfl;have c1:=A 1 (.int .i64 ps[k].s) rfl;have c2:=A 2 (.int .i64 ps[k].q) rfl;have c3:=A 3 (ps[k].va) rfl;have X:=z1u TxnQ.n ps k O;have I:=az _ (List.getElem_mem O);have ae:Hid (∀p':TxnQ,p'.e=TxnQ.e ps[k]→(qs++[p']).map TxnQ.e=(ps.take (k+1)).map TxnQ.e):=fun p' aA=>by
    rw[List.take_succ_eq_append_getElem O,List.map_append,List.map_append,HE.out,List.map_singleton,List.map_singleton,aA]
   clear hc A;generalize ps[k]=p at*;obtain⟨i,s,q,va,c⟩:=p;replace d:actK.At wr va c:=d;replace X:c.length≤nmL TxnQ.n ps:=X;obtain⟨aa,ac,rfl⟩:=d.shape;dsimp only at c0 c1 c2 c3 I;obtain⟨ab,ao,aw⟩:∃ab ao,aa=some ⟨ab,ao,none⟩:=by
    rcases(z0T d).2 with h0|⟨ab,ao,e,_⟩
    ·have:=z0q c;rw[h0]at this;simp at this;omega
    ·exact⟨ab,ao,e⟩
   subst aw;have N:Below wr.heap.size wr (wr.alloc (.cells #[.int .i64 i,.int .i64 s,.int .i64 q,.slice (some ⟨ab,ao,none⟩) c.length ac] 39)):=by go_grown
   have ai:=z2t i s q ab ao ac c _ ((z0T d).2.below N) I (by omega);rw[Nat.add_zero]at c0;replace hO:=hO.below N;replace hb:=hb.trans (N.mono hb.size);clear HE N
   go_wp2_with fail
   clear c0 c1 c2 c3;generalize wr.alloc (.cells #[.int .i64 i,.int .i64 s,.int .i64 q,.slice (some ⟨ab,ao,none⟩) c.length ac] 39)=Y at*;have aH:w.heap.size≤Y.heap.size:=hb.size;refine ai.mono ?_;rintro e w2 ⟨a2,c2,rfl,ap,L⟩;have Z:=hO.lt;replace hO:=hO.below L;replace hb:=hb.trans (L.mono hb.size);obtain⟨o2,aj⟩:=z0u ap;have hP:txnK.own w2 ⟨i,s,q,.slice a2 c.length c2,c⟩:=⟨o2,fun _ _=>trivial⟩
   have y:∀x∈txnK.foot ⟨i,s,q,.slice a2 c.length c2,c⟩,Y.heap.size≤x:=fun x hx=>aj x (by rw[←z03 (.slice a2 c.length c2) c];exact hx)
   have ah:(txnK.foot ⟨i,s,q,.slice a2 c.length c2,c⟩).Nodup:=by
    show(actK.fp _ _).Nodup;rw[z03];exact z0r _
   have z:Below w2.heap.size w2 (w2.alloc (.cells #[.int .i64 i,.int .i64 s,.int .i64 q,.slice a2 c.length c2] 39)):=by go_grown
   have V:=hO.below z;have ag:=txnK.own_out (F:=[]) hP (Out.of_below z) (fun _ _=>by simp);have M:=hb.trans (z.mono hb.size);clear ai ap hO hP aj;have J:=V.1
   go_wp2_with (at_builtin;refine wpList_append_own_at _ rfl _ _ 25 rfl 0 39 i0 (.agg #[.int .i64 0,.int .i64 0,.int .i64 0,.slice none 0 0]) 4 48 Tryz.underlying25 hi aD aE aF rfl (by decide) _ qs.length (txnK.row qs) rfl J ⟨w2.heap.size,0,none⟩ 1 1 [.int .i64 i,.int .i64 s,.int .i64 q,.slice a2 c.length c2] rfl rfl ?c1 ?c2 ?c3 ?c4 ?c5 ?_)
   all_goals try(case c1=>intro j u hj;match j,hj with|0,hj=>simp at hj;subst hj;simp[Addr.add]|1,hj=>simp at hj;subst hj;simp[Addr.add]|2,hj=>simp at hj;subst hj;simp[Addr.add]|3,hj=>simp at hj;subst hj;simp[Addr.add])
   all_goals try(case c2=>intro u hu;simp at hu;rcases hu with rfl|rfl|rfl|rfl<;>rfl)
   all_goals try(case c3=>have:=af.out;unfold maxLen;omega)
   all_goals try(case c4=>have:=af.out;omega)
   all_goals try(case c5=>first|omega|simp)
   intro v' w5 U C an W;clear an J;rw[show w2.heap.size+1=(w2.alloc (.cells #[.int .i64 i,.int .i64 s,.int .i64 q,.slice a2 c.length c2] 39)).heap.size from(World.size_alloc _ _).symm]at W;generalize aB:w2.alloc (.cells #[.int .i64 i,.int .i64 s,.int .i64 q,.slice a2 c.length c2] 39)=WA at*;clear aB;have aJ:Y.heap.size≤WA.heap.size:=by have:=L.size;have:=z.size;omega
   obtain⟨av,am,T,aq⟩:=V.snoc HN.out.1 HN.out.2 ag ah (fun x hx aC=>by have:=Z x aC;have:=y x hx;omega) (fun x hx=>by have:=y x hx;omega) M.size U C W;have ax:Below w.heap.size w w5:=Out.keep M aq M.size (fun x hx=>HN.out.2 x (by simp only[Kind.fp,List.mem_append];exact Or.inl hx));have ar:Hid ((qs++[(⟨i,s,q,.slice a2 c.length c2,c⟩:TxnQ)]).map TxnQ.e=(ps.take (k+1)).map TxnQ.e):=ae.out _ rfl;have au:Hid ((txnK.fp v' (qs++[(⟨i,s,q,.slice a2 c.length c2,c⟩:TxnQ)])).Nodup∧∀k∈txnK.fp v' (qs++[(⟨i,s,q,.slice a2 c.length c2,c⟩:TxnQ)]),w.heap.size≤k):=⟨am,T⟩
   clear ae HN Z y ah ag V M U C W aq am T d hb z L X I
   go_wp2
   go_roundw
   case rel=>exact⟨k+1,_,by omega,by go_num,ar,av,au,ax⟩
   case measure=>simp[intOf];omega
  ·have ay:k=ps.length:=by omega
   subst ay;have hE:=HE.out;rw[List.take_length]at hE;clear HE
   go_wp2
   go_ret;exact⟨_,qs,rfl,hE,hO,HN.out.1,HN.out.2,hb⟩
theorem z1F(w:World)(g:Nat)(cs:Array Value):Out [g] w (w.setRow g cs):=
 ⟨rfl,rfl,rfl,by rw[setRow_size];exact Nat.le_refl _,fun k _ hn=>setRow_other w g k cs (by simpa using hn)⟩
end Go.Proofs.YtlkpdgjnhkjpjaaGreatDoor

import Derived.Test.YtdppipeclnldeaaGreatDoorOBAC
set_option linter.unusedVariables false
set_option linter.unusedSimpArgs false
set_option maxRecDepth 100000
set_option maxHeartbeats 4000000
namespace Go.Proofs.YtdppipeclnldeaaGreatDoor
open Go.RowKit Go.BigFrame
open Nat renaming le_refl->H,zero_le->s
open List renaming mem_append_right->f,mem_append_left->Va
open IntKind renaming i64->G
open Value renaming int->F,slice->K
open Go.Proofs.Tryz renaming prog->Q
open Go.Proofs.Tryz
def itemK:Kind ItemD where
 ty:=155
 size:=2
 cells:=ItemD.cells
 own _ _:=True
 rd _ _:=True
 foot _:=[]
 len _:=rfl
 own_rd _:=trivial
 own_out _ _ _:=trivial
 own_lt _ k hk:=by simp at hk
 rd_below _ _:=trivial
theorem z05{w:World}{a:Option Addr}{n cap:Nat}{zs:List ItemD}(h:itemK.At w (K a n cap) zs):n=zs.length∧ItemRow w a zs:=by
 obtain⟨a',c,e,hl,_⟩:=h;simp only[Value.slice.injEq]at e;obtain⟨rfl,rfl,_⟩:=e;exact⟨rfl,hl⟩
theorem z0q(v:Value)(zs:List ItemD):itemK.fp v zs=blk v:=by
 have:zs.flatMap itemK.foot=[]:=by simp[show∀z,itemK.foot z=[]from fun _=>rfl]
 simp[Kind.fp,this]
def undoK:Kind UndoD where
 ty:=194
 size:=3
 cells:=UndoD.cells
 own _ _:=True
 rd _ _:=True
 foot _:=[]
 len _:=rfl
 own_rd _:=trivial
 own_out _ _ _:=trivial
 own_lt _ k hk:=by simp at hk
 rd_below _ _:=trivial
theorem z1X{w:World}{a:Option Addr}{n cap:Nat}{zs:List UndoD}(h:undoK.At w (K a n cap) zs):n=zs.length∧UndoRow w a zs:=by
 obtain⟨a',c,e,hl,_⟩:=h;simp only[Value.slice.injEq]at e;obtain⟨rfl,rfl,_⟩:=e;exact⟨rfl,hl⟩
theorem z0M(v:Value)(zs:List UndoD):undoK.fp v zs=blk v:=by
 have:zs.flatMap undoK.foot=[]:=by simp[show∀z,undoK.foot z=[]from fun _=>rfl]
 simp[Kind.fp,this]
theorem z8l(v:Value)(zs:List ItemD)(c:Int)(w:World)(h:itemK.At w v zs)(hn:zs.length≤9223372036854775807)(h0:0≤c)(h1:c≤1048576):
  Calls Q 102 #[v,F G c] w fun e w'=>∃r:Int,e=.returned (F G r)∧(¬r<0→(zs.length:Int)+r=c)∧Below w.heap.size w w':=by
 obtain⟨a,cap,rfl⟩:=h.shape;refine(z9s a zs.length cap c w hn h0 (by omega)).mono ?_;rintro e w' ⟨rfl,rfl⟩;refine⟨_,rfl,?_,Below.refl _ _⟩;split<;>omega
theorem z8m(v:Value)(zs:List ItemD)(w:World)(h:itemK.At w v zs)(hl:zs.length≤1048576):
  Calls Q 122 #[v] w fun e w'=>∃v',e=.returned v'∧itemK.Own w' v' zs∧(itemK.fp v' zs).Nodup∧(∀k∈itemK.fp v' zs,w.heap.size≤k)∧Below w.heap.size w w':=by
 obtain⟨a,cap,rfl⟩:=h.shape;refine(z9q a cap zs w (z05 h).2 hl).mono ?_;rintro e w' ⟨g,c,rfl,ho,hb⟩;obtain⟨o,hk⟩:=z0B ho;refine⟨_,rfl,⟨o,fun _ _=>trivial⟩,?_,?_,hb⟩
 ·rw[z0q];exact z0x _
 ·rw[z0q];exact hk
theorem z8n(v v':Value)(zs:List ItemD)(w:World)(h:itemK.At w v zs)(h':itemK.At w v' zs)(hl:zs.length≤1048576):
  Calls Q 144 #[v,v'] w fun e w'=>e=.returned (.bool true)∧Below w.heap.size w w':=by
 obtain⟨a,cap,rfl⟩:=h.shape;obtain⟨a',cap',rfl⟩:=h'.shape;exact z8j a a' cap cap' zs w (z05 h).2 (z05 h').2 (by omega)
def z1f(c:Int)(zs:List ItemD):List ItemD:=z0N c zs.length
theorem z1B(c:Int)(v:Value)(zs:List ItemD):itemK.fp v (z1f c zs)=itemK.fp v zs:=by rw[z0q,z0q]
theorem z5B(v:Value)(zs:List ItemD)(c:Int)(w:World)(h:itemK.Own w v zs)(hl:zs.length≤1048576)(h0:0≤c)(h1:c≤1099511627776):
  Calls Q 52 #[v,F G c] w fun e w'=>e=.returned (F G (c+((zs.length*2:Nat):Int)))∧itemK.Own w' v (z1f c zs)∧Out (itemK.fp v zs) w w':=by
 refine(z7g 0 v zs.length _ c w h.1 (by omega) h0 h1).mono ?_;rintro e w' ⟨rfl,ho,hg⟩;refine⟨rfl,⟨?_,fun _ _=>trivial⟩,?_⟩
 ·have e:(z1f c zs).length=zs.length:=by simp[z1f,z02]
  rw[e];exact ho
 ·rw[z0q];exact Out.of_grown hg
theorem z5C(v:Value)(zs:List ItemD)(c:Int)(w:World)(h:itemK.At w v (z1f c zs))(hl:zs.length≤1048576)(h0:0≤c)(h1:c≤1099511627776):
  Calls Q 98 #[v,F G c] w fun e w'=>e=.returned (F G (c+((zs.length*2:Nat):Int)))∧Below w.heap.size w w':=by
 obtain⟨a,cap,rfl⟩:=h.shape;have e:(z1f c zs).length=zs.length:=by simp[z1f,z02]
 have hA:=(z05 h).2;rw[e];refine(z6o a zs.length cap c w hA (by omega) h0 h1).mono ?_;rintro e w' ⟨rfl,hw⟩;exact⟨rfl,by subst hw;exact Below.refl _ _⟩
theorem q2e(v:Value)(zs:List UndoD)(c:Int)(w:World)(h:undoK.At w v zs)(hn:zs.length≤9223372036854775807)(h0:0≤c)(h1:c≤1048576):
  Calls Q 149 #[v,F G c] w fun e w'=>∃r:Int,e=.returned (F G r)∧(¬r<0→(zs.length:Int)+r=c)∧Below w.heap.size w w':=by
 obtain⟨a,cap,rfl⟩:=h.shape;refine(z9v a zs.length cap c w hn h0 (by omega)).mono ?_;rintro e w' ⟨rfl,rfl⟩;refine⟨_,rfl,?_,Below.refl _ _⟩;split<;>omega
theorem q2f(v:Value)(zs:List UndoD)(w:World)(h:undoK.At w v zs)(hl:zs.length≤1048576):
  Calls Q 161 #[v] w fun e w'=>∃v',e=.returned v'∧undoK.Own w' v' zs∧(undoK.fp v' zs).Nodup∧(∀k∈undoK.fp v' zs,w.heap.size≤k)∧Below w.heap.size w w':=by
 obtain⟨a,cap,rfl⟩:=h.shape;refine(z9t a cap zs w (z1X h).2 hl).mono ?_;rintro e w' ⟨g,c,rfl,ho,hb⟩;obtain⟨o,hk⟩:=z0B ho;refine⟨_,rfl,⟨o,fun _ _=>trivial⟩,?_,?_,hb⟩
 ·rw[z0M];exact z0x _
 ·rw[z0M];exact hk
theorem q2g(v v':Value)(zs:List UndoD)(w:World)(h:undoK.At w v zs)(h':undoK.At w v' zs)(hl:zs.length≤1048576):
  Calls Q 190 #[v,v'] w fun e w'=>e=.returned (.bool true)∧Below w.heap.size w w':=by
 obtain⟨a,cap,rfl⟩:=h.shape;obtain⟨a',cap',rfl⟩:=h'.shape;exact z8k a a' cap cap' zs w (z1X h).2 (z1X h').2 (by omega)
def z13(c:Int)(zs:List UndoD):List UndoD:=z0V c zs.length
theorem z6L(c:Int)(v:Value)(zs:List UndoD):undoK.fp v (z13 c zs)=undoK.fp v zs:=by rw[z0M,z0M]
theorem z9w(v:Value)(zs:List UndoD)(c:Int)(w:World)(h:undoK.Own w v zs)(hl:zs.length≤1048576)(h0:0≤c)(h1:c≤1099511627776):
  Calls Q 94 #[v,F G c] w fun e w'=>e=.returned (F G (c+((zs.length*3:Nat):Int)))∧undoK.Own w' v (z13 c zs)∧Out (undoK.fp v zs) w w':=by
 refine(z7h 0 v zs.length _ c w h.1 (by omega) h0 h1).mono ?_;rintro e w' ⟨rfl,ho,hg⟩;refine⟨rfl,⟨?_,fun _ _=>trivial⟩,?_⟩
 ·have e:(z13 c zs).length=zs.length:=by simp[z13,z03]
  rw[e];exact ho
 ·rw[z0M];exact Out.of_grown hg
theorem z9x(v:Value)(zs:List UndoD)(c:Int)(w:World)(h:undoK.At w v (z13 c zs))(hl:zs.length≤1048576)(h0:0≤c)(h1:c≤1099511627776):
  Calls Q 147 #[v,F G c] w fun e w'=>e=.returned (F G (c+((zs.length*3:Nat):Int)))∧Below w.heap.size w w':=by
 obtain⟨a,cap,rfl⟩:=h.shape;have e:(z13 c zs).length=zs.length:=by simp[z13,z03]
 have hA:=(z1X h).2;rw[e];refine(z6p a zs.length cap c w hA (by omega) h0 h1).mono ?_;rintro e w' ⟨rfl,hw⟩;exact⟨rfl,by subst hw;exact Below.refl _ _⟩
structure USQ where
 va:Value
 us:List UndoD
def ussK:Kind USQ where
 ty:=157
 size:=1
 cells p:=[p.va]
 own w p:=undoK.Own w p.va p.us
 rd w p:=undoK.At w p.va p.us
 foot p:=undoK.fp p.va p.us
 len _:=rfl
 own_rd h:=h.at
 own_out h ho hd:=h.out ho hd
 own_lt h:=h.lt
 rd_below h hb:=h.below hb
def USQ.e(p:USQ):List UndoD:=p.us
def USQ.n(p:USQ):Nat:=p.us.length
def USQ.wf(p:USQ):Prop:=p.us.length≤9223372036854775807
theorem z2W:(Q.info? 157).map (fun i=>(i.zero,i.size,i.bytes))=some (some (K none 0 0),1,24):=by kernel_rfl
theorem q56(p:USQ)(c:Int)(w:World)(h:ussK.rd w p)(hn:USQ.wf p)(h0:0≤c)(h1:c≤1048576):
  Calls Q 149 #[p.va,F G c] w fun e w'=>∃r:Int,e=.returned (F G r)∧(¬r<0→(USQ.n p:Int)+r=c)∧Below w.heap.size w w':=q2e p.va p.us c w h hn h0 h1
theorem q57(p p':USQ)(w:World)(h:ussK.rd w p)(h':ussK.rd w p')(he:p.e=p'.e)(hl:USQ.n p≤1048576):
  Calls Q 190 #[p.va,p'.va] w fun e w'=>e=.returned (.bool true)∧Below w.heap.size w w':=by
 obtain⟨va,us⟩:=p;obtain⟨va',us'⟩:=p';have he:us=us':=he;subst he;exact q2g va va' us w h h' hl
theorem q58(p:USQ)(w:World)(h:ussK.rd w p)(hl:USQ.n p≤1048576):
  Calls Q 161 #[p.va] w fun e w'=>∃p':USQ,e=.returned p'.va∧p'.e=p.e∧ussK.own w' p'∧(ussK.foot p').Nodup∧(∀k∈ussK.foot p',w.heap.size≤k)∧Below w.heap.size w w':=by
 refine(q2f p.va p.us w h hl).mono ?_;rintro e w' ⟨v',rfl,ho,hn,hg,hb⟩;exact⟨⟨v',p.us⟩,rfl,rfl,ho,hn,hg,hb⟩
theorem q48(v:Value)(ps:List USQ)(c:Int)(w:World)(h:ussK.At w v ps)(hn:ps.length≤9223372036854775807)(J:∀p∈ps,USQ.wf p)(h0:0≤c)(h1:c≤1048576):
  Calls Q 103 #[v,F G c] w fun e w'=>∃r:Int,e=.returned (F G r)∧(¬r<0→((ps.length+nmL USQ.n ps:Nat):Int)+r=c)∧Below w.heap.size w w':=by
 obtain⟨a,cap,rfl⟩:=h.shape;by_cases U:c-ps.length<0
 ·go_enter func103,ntmps103
  go_wp2
  go_ret;exact⟨_,rfl,fun h=>by omega,Below.refl _ _⟩
 ·go_enter func103,ntmps103
  go_wp2
  go_loopw[1,5] (fun l i wr=>∃ (k:Nat) (x:Int),k≤ps.length∧i=F G k∧l=F G x∧0≤x∧x≤1048576∧Hid (ps.length+nmL USQ.n (ps.take k)+x=c)∧Below w.heap.size w wr) (fun _ i _=>ps.length-(intOf i).toNat)
  case atStart=>exact⟨0,c-ps.length,s _,rfl,by go_num,by omega,by omega,show _=_ by simp[nmL];omega,Below.refl _ _⟩
  case round=>
   obtain⟨k,x,hk,rfl,rfl,N,O,HS,hb⟩:=hrel;by_cases d:k<ps.length
   ·obtain⟨b,T,rfl,W,hc,M⟩:=(h.below hb).cell (by decide) k d;have C:∀j x,(ussK.cells ps[k])[j]?=some x→wr.cell? ⟨b,T+k+j,none⟩=some x:=fun j x hx=>by have:=hc j x hx;rwa [show k*ussK.size=k from Nat.mul_one k]at this
    have c0:=C 0 (ps[k].va) rfl;have hs:=z0S USQ.n ps k d;have HN:=J _ (List.getElem_mem d);have z:Hid (∀y:Int,(USQ.n ps[k]:Int)+y=x→ps.length+nmL USQ.n (ps.take (k+1))+y=c):=by
     intro y hy;have:=HS.out;omega
    clear HS hs hc C;generalize ps[k]=p at*;have E:=q56 p x wr M HN N O;generalize USQ.n p=m at*;rw[Nat.add_zero]at c0
    go_wp2_with fail
    refine E.mono ?_;rintro e w2 ⟨r,rfl,hr,A⟩;replace hb:=hb.trans (A.mono hb.size);clear A E c0;by_cases V:r<0
    ·go_wp2
     go_ret;exact⟨_,rfl,fun h=>by omega,hb⟩
    ·have D:=hr (by omega);have HR:Hid (ps.length+nmL USQ.n (ps.take (k+1))+r=c):=z.out r D;have L:r≤1048576:=by omega
     clear z hr D
     go_wp2
     go_roundw
     case rel=>exact⟨k+1,r,by omega,by go_num,rfl,by omega,L,HR.out,hb⟩
     case measure=>simp[intOf];omega
   ·have I:k=ps.length:=by omega
    subst I;rw[List.take_length]at HS
    go_wp2
    go_ret;exact⟨_,rfl,fun _=>by have:=HS.out;omega,hb⟩
theorem q49(v v':Value)(ps qs:List USQ)(w:World)(h:ussK.At w v ps)(h':ussK.At w v' qs)(he:ps.map USQ.e=qs.map USQ.e)(hl:(ps.length+nmL USQ.n ps)≤1048576):
  Calls Q 145 #[v,v'] w fun e w'=>e=.returned (.bool true)∧Below w.heap.size w w':=by
 obtain⟨a,cap,rfl⟩:=h.shape;obtain⟨a',T,rfl⟩:=h'.shape;have c:qs.length=ps.length:=by
  have:=congrArg List.length he;simpa using this.symm
 rw[c]at h'⊢;have HL:Hid (qs.length=ps.length):=c;clear c;go_enter func145,ntmps145
 go_wp2
 go_loopw[5] (fun i wr=>∃k:Nat,k≤ps.length∧i=F G k∧Below w.heap.size w wr) (fun i _=>ps.length-(intOf i).toNat)
 case atStart=>exact⟨0,s _,rfl,Below.refl _ _⟩
 case round=>
  obtain⟨k,hk,rfl,hb⟩:=hrel;by_cases z:k<ps.length
  ·have d:k<qs.length:=by have:=HL.out;omega
   obtain⟨b,O,rfl,V,hc,J⟩:=(h.below hb).cell (by decide) k z;obtain⟨b',L,rfl,U,hd,y⟩:=(h'.below hb).cell (by decide) k d;have D:∀j x,(ussK.cells ps[k])[j]?=some x→wr.cell? ⟨b,O+k+j,none⟩=some x:=fun j x hx=>by have:=hc j x hx;rwa [show k*ussK.size=k from Nat.mul_one k]at this
   have E:∀j x,(ussK.cells qs[k])[j]?=some x→wr.cell? ⟨b',L+k+j,none⟩=some x:=fun j x hx=>by have:=hd j x hx;rwa [show k*ussK.size=k from Nat.mul_one k]at this
   have c0:=D 0 (ps[k].va) rfl;have d0:=E 0 (qs[k].va) rfl;have I:USQ.e ps[k]=USQ.e qs[k]:=by
    have:=congrArg (·[k]?) he;simpa[z,d]using this
   have N:=z01 USQ.n ps k z;clear hc D hd E;generalize ps[k]=p at*;generalize qs[k]=p' at*;have A:=fun w h1 h2=>q57 p p' w h1 h2 I (show USQ.n p≤1048576 by omega)
   clear I N;rw[Nat.add_zero]at c0 d0;have k0:=z0a c0;have l0:=z0a d0;clear c0 d0;have hW:Below wr.heap.size wr wr.drew:=(Below.refl _ _).drew;have M:Nonempty (Lat wr):=⟨⟨wr,Below.refl _ _⟩⟩
   go_wp2_with fail
   refine z0b (S:=fun w'=>∃u:Lat wr,w'=u.val) (by kernel_rfl) ?_;refine sgr [(0,8)] 2 (by kernel_rfl) ⟨⟨_,hW⟩,rfl⟩ ?_;simp only[pkE];repeat go_big_quiet_step (fail)
   refine wpQuiet_nil ?_;refine cla 8 (some 25) 190 #[p.va,p'.va] 1 (by kernel_rfl) ?_;refine(A _ (ussK.rd_below J hW) (ussK.rd_below y hW)).mono ?_;rintro e w2 ⟨rfl,C⟩;replace hW:=hW.trans (C.mono hW.size);clear C;refine⟨_,rfl,⟨⟨_,hW⟩,rfl⟩,?_⟩;simp only[Act.put,pjE];refine sgr [(9,1)] 0 (by kernel_rfl) ⟨⟨_,hW⟩,rfl⟩ ?_;simp only[pkE];repeat go_big_quiet_step (fail)
   refine wpQuiet_nil ?_;refine z0g (by kernel_rfl) ?_;replace hb:=hb.trans (hW.mono hb.size);clear k0 l0 hW M J y A
   go_wp2
   go_roundw
   case rel=>exact⟨k+1,by omega,by go_num,hb⟩
   case measure=>simp[intOf];omega
  ·go_wp2
   go_ret;exact⟨rfl,hb⟩
theorem q5a(v:Value)(ps:List USQ)(w:World)(h:ussK.At w v ps)(hl:(ps.length+nmL USQ.n ps)≤1048576):
  Calls Q 123 #[v] w fun e w'=>∃v' qs,e=.returned v'∧qs.map USQ.e=ps.map USQ.e∧ussK.Own w' v' qs∧(ussK.fp v' qs).Nodup∧(∀k∈ussK.fp v' qs,w.heap.size≤k)∧Below w.heap.size w w':=by
 obtain⟨a,cap,rfl⟩:=h.shape;obtain⟨i0,hi,ao,ap,aq⟩:=info_parts z2W;have J:i0.bytes*ps.length≤281474976710656:=by rw[aq];omega
 have ae:ps.length≤maxLen:=by unfold maxLen;omega
 go_enter func123,ntmps123
 go_wp2_with (at_make;refine wpList_make_full _ rfl _ _ 53 rfl w.heap.size 157 i0 (K none 0 0) 1 Tryz.underlying53 hi ao ap _ _ _ _ ps.length rfl rfl rfl rfl J ae (H _) ?_)
 intro w1 M C;have Y:Below w.heap.size w w1:=(Below.refl _ _).grown C (H _) (by simp);have hO:ussK.Own w1 (K (some ⟨w.heap.size,0,none⟩) ps.length ps.length) (List.replicate ps.length (⟨K none 0 0,[]⟩:USQ)):=by
  refine⟨?_,fun p hp=>?_⟩
  ·rw[List.length_replicate,←z3Q (⟨K none 0 0,[]⟩:USQ) _ (by decide)];rw[show ps.length*ussK.size=ps.length from Nat.mul_one _];exact z0r M (s _)
  ·rw[(List.mem_replicate.1 hp).2];exact⟨World.ownsRow_nil _ _ _ _,fun p hp=>by simp at hp⟩
 have hF:ussK.fp (K (some ⟨w.heap.size,0,none⟩) ps.length ps.length) (List.replicate ps.length (⟨K none 0 0,[]⟩:USQ))=[w.heap.size]:=z8d rfl;have HN:Hid ((ussK.fp (K (some ⟨w.heap.size,0,none⟩) ps.length ps.length) (List.replicate ps.length (⟨K none 0 0,[]⟩:USQ))).Nodup):=by rw[hF];show List.Nodup _;simp
 have HG:Hid (∀x∈ussK.fp (K (some ⟨w.heap.size,0,none⟩) ps.length ps.length) (List.replicate ps.length (⟨K none 0 0,[]⟩:USQ)),w.heap.size≤x):=by rw[hF];intro x hx;simp at hx;omega
 have HZ:Hid (∀j (hj:j<(List.replicate ps.length (⟨K none 0 0,[]⟩:USQ)).length),0≤j→(List.replicate ps.length (⟨K none 0 0,[]⟩:USQ))[j]=(⟨K none 0 0,[]⟩:USQ)):=fun j hj _=>by simp
 have af:(List.replicate ps.length (⟨K none 0 0,[]⟩:USQ)).length=ps.length:=by simp
 clear M C hF;generalize List.replicate ps.length (⟨K none 0 0,[]⟩:USQ)=aj at*;have HE:Hid ((aj.take 0).map USQ.e=(ps.take 0).map USQ.e):=show _=_ by simp
 go_wp2
 go_loopw [4] (fun i wr=>∃ (k:Nat) (qs:List USQ),k≤ps.length∧i=F G k∧Hid (qs.length=ps.length)∧Hid ((qs.take k).map USQ.e=(ps.take k).map USQ.e)∧Hid (∀ j (hj:j < qs.length),k≤j→qs[j]=(⟨K none 0 0,[]⟩:USQ))∧ussK.Own wr (K (some ⟨w.heap.size,0,none⟩) ps.length ps.length) qs ∧
  Hid ((ussK.fp (K (some ⟨w.heap.size,0,none⟩) ps.length ps.length) qs).Nodup)∧Hid (∀ x∈ussK.fp (K (some ⟨w.heap.size,0,none⟩) ps.length ps.length) qs,w.heap.size≤x)∧Below w.heap.size w wr) (fun i _=>ps.length - (intOf i).toNat)
 case atStart=>exact⟨0,aj,s _,rfl,af,HE,HZ,hO,HN,HG,Y⟩
 case round=>
  clear HE HZ hO HN HG Y af;obtain⟨k,qs,hk,rfl,HQ,HE,HZ,hO,HN,HG,hb⟩:=hrel;by_cases U:k<ps.length
  ·have c:k<qs.length:=by have:=HQ.out;omega
   have W:=HZ.out k c (H _);obtain⟨b,ar,rfl,au,hc,ag⟩:=(h.below hb).cell (by decide) k U;have aa:∀j x,(ussK.cells ps[k])[j]?=some x→wr.cell? ⟨b,ar+k+j,none⟩=some x:=fun j x hx=>by have:=hc j x hx;rwa [show k*ussK.size=k from Nat.mul_one k]at this
   have c0:=aa 0 (ps[k].va) rfl;have ax:=z01 USQ.n ps k U;have X:Hid (∀p':USQ,p'.e=USQ.e ps[k]→((qs.set k p').take (k+1)).map USQ.e=(ps.take (k+1)).map USQ.e):=by
    intro p' am;have h1:=HE.out;rw[List.take_succ_eq_append_getElem U,List.take_succ_eq_append_getElem (show k<(qs.set k p').length by simpa using c)];simp only[List.map_append,List.map_cons,List.map_nil,List.getElem_set_self,am,List.take_set_of_le (H k),h1]
   clear hc aa;generalize ps[k]=p at*;have ah:=q58 p wr ag (by omega);rw[Nat.add_zero]at c0
   go_wp2_with fail
   refine ah.mono ?_;rintro e w2 ⟨p',rfl,V,d,D,y,Z⟩;obtain⟨x0,y0⟩:=p';have o0:undoK.Own w2 x0 y0:=d;obtain⟨a0,b0,rfl⟩:=o0.shape;clear o0;dsimp only;generalize hP:(⟨K a0 y0.length b0,y0⟩:USQ)=p' at V d D y;have O:ussK.cells p'=[K a0 y0.length b0]:=by rw[←hP];rfl
   have I:=hO.below Z;obtain⟨e0,f0⟩:=I.cell k c 0 _ (by rw[W];rfl);have ad:∀j,k*ussK.size+j=k+j:=fun j=>by rw[show k*ussK.size=k from Nat.mul_one k]
   rw[ad]at e0 f0;rw[Nat.add_zero]at e0 f0;have z:=I.1;have hQ:=HQ.out;rw[hQ]at z;have A:=z1l z (k) [K a0 y0.length b0];rw[←O]at A;have T:∀x∈ussK.fp (K (some ⟨w.heap.size,0,none⟩) ps.length ps.length) qs,x<wr.heap.size:=hO.lt;have ab:w.heap.size∈ussK.fp (K (some ⟨w.heap.size,0,none⟩) ps.length ps.length) qs:=by simp[Kind.fp,blk,Value.ownBlock]
   have av:w.heap.size<wr.heap.size:=T _ ab;have E:=HN.out;have L:∀x∈ussK.foot p',x∉ussK.fp (K (some ⟨w.heap.size,0,none⟩) ps.length ps.length) qs:=fun x hx an=>by have:=y x hx;have:=T x an;omega
   have N:ussK.Own (w2.setCell ⟨w.heap.size,k,none⟩ (K a0 y0.length b0)) (K (some ⟨w.heap.size,0,none⟩) ps.length ps.length) (qs.set k p'):=by
    refine Kind.Own.put I k c p' ?_ (Out.setCell _ _ _ _) ?_ d ?_
    ·rw[hQ];rw[show k*ussK.size=k from Nat.mul_one k];rw[O]at A⊢;exact A
    ·intro q hq x hx ai;simp only[Kind.fp,blk,Value.ownBlock,Option.toList,List.cons_append,List.nil_append,List.nodup_cons]at E;exact E.1 (List.mem_flatMap.2 ⟨q,hq,ai▸hx⟩)
    ·intro x hx ai;have:=y x hx;omega
   have R:Hid (ussK.Own (w2.setCell ⟨w.heap.size,k,none⟩ (K a0 y0.length b0)) (K (some ⟨w.heap.size,0,none⟩) ps.length ps.length) (qs.set k p')∧Below w.heap.size w (w2.setCell ⟨w.heap.size,k,none⟩ (K a0 y0.length b0))):=by
    refine⟨N,?_⟩;have ak:=hb.trans (Z.mono hb.size);exact(ak.setCell (p:=⟨w.heap.size,k,none⟩) (H _) _)
   have R1:Hid ((ussK.fp (K (some ⟨w.heap.size,0,none⟩) ps.length ps.length) (qs.set k p')).Nodup):=z2F E k c p' (by rw[W];rfl) D L;have R2:Hid (∀x∈ussK.fp (K (some ⟨w.heap.size,0,none⟩) ps.length ps.length) (qs.set k p'),w.heap.size≤x):=by
    intro x hx;simp only[Kind.fp,List.mem_append]at hx;rcases hx with hx|hx
    ·exact HG.out x (by simp only[Kind.fp,List.mem_append];exact Or.inl hx)
    ·rcases z1a c hx with hx|hx
     ·exact HG.out x (by simp only[Kind.fp,List.mem_append];exact Or.inr hx)
     ·have:=y x hx;omega
   have R3:Hid (∀j (hj:j<(qs.set k p').length),k+1≤j→(qs.set k p')[j]=(⟨K none 0 0,[]⟩:USQ)):=fun j hj aw=>by
    rw[List.getElem_set_ne (by omega)];exact HZ.out j (by simpa using hj) (by omega)
   have R4:Hid ((qs.set k p').length=ps.length):=by rw[List.length_set];exact HQ.out
   have R5:Hid (((qs.set k p').take (k+1)).map USQ.e=(ps.take (k+1)).map USQ.e):=X.out p' V;clear N A z hQ I hO HN HG HZ HE HQ X E L d D y T ab hb W ag ah V ad O hP
   go_wp2
   go_roundw
   case rel=>exact⟨k+1,qs.set k p',by omega,by go_num,R4.out,R5.out,R3.out,R.out.1,R1.out,R2.out,R.out.2⟩
   case measure=>simp[intOf];omega
  ·have al:k=ps.length:=by omega
   subst al;have hQ:=HQ.out;have hE:=HE.out;rw[List.take_length,List.take_of_length_le (by omega)]at hE;clear HE HZ
   go_wp2
   go_ret;exact⟨_,qs,rfl,hE,hO,HN.out,HG.out,hb⟩
structure RepQ where
 vd:Value
 done:List TxnQ
 vb:Value
 base:List ItemD
 vt:Value
 tent:List TxnQ
 vu:Value
 undos:List USQ
 vn:Value
 now:List ItemD
structure RepE where
 done:List TxnD
 base:List ItemD
 tent:List TxnD
 undos:List (List UndoD)
 now:List ItemD
def RepQ.e(p:RepQ):RepE:=⟨p.done.map TxnQ.e,p.base,p.tent.map TxnQ.e,p.undos.map USQ.e,p.now⟩
def repK:Kind RepQ where
 ty:=55
 size:=5
 cells p:=[p.vd,p.vb,p.vt,p.vu,p.vn]
 own w p:=txnK.Own w p.vd p.done∧itemK.Own w p.vb p.base∧txnK.Own w p.vt p.tent∧ussK.Own w p.vu p.undos∧itemK.Own w p.vn p.now
 rd w p:=txnK.At w p.vd p.done∧itemK.At w p.vb p.base∧txnK.At w p.vt p.tent∧ussK.At w p.vu p.undos∧itemK.At w p.vn p.now
 foot p:=txnK.fp p.vd p.done++(itemK.fp p.vb p.base++(txnK.fp p.vt p.tent++(ussK.fp p.vu p.undos++itemK.fp p.vn p.now)))
 len _:=rfl
 own_rd h:=⟨h.1.at,h.2.1.at,h.2.2.1.at,h.2.2.2.1.at,h.2.2.2.2.at⟩
 own_out h ho hd:=⟨h.1.out ho (fun k hk=>hd k (Va _ hk)),h.2.1.out ho (fun k hk=>hd k (f _ (Va _ hk))),h.2.2.1.out ho (fun k hk=>hd k (f _ (f _ (Va _ hk)))),h.2.2.2.1.out ho (fun k hk=>hd k (f _ (f _ (f _ (Va _ hk))))),h.2.2.2.2.out ho (fun k hk=>hd k (f _ (f _ (f _ (f _ hk)))))⟩
 own_lt h k hk:=by
  rcases List.mem_append.1 hk with hk|hk
  ·exact h.1.lt k hk
  rcases List.mem_append.1 hk with hk|hk
  ·exact h.2.1.lt k hk
  rcases List.mem_append.1 hk with hk|hk
  ·exact h.2.2.1.lt k hk
  rcases List.mem_append.1 hk with hk|hk
  ·exact h.2.2.2.1.lt k hk
  ·exact h.2.2.2.2.lt k hk
 rd_below h hb:=⟨h.1.below hb,h.2.1.below hb,h.2.2.1.below hb,h.2.2.2.1.below hb,h.2.2.2.2.below hb⟩
def RepQ.n(p:RepQ):Nat:=(p.done.length+nmL TxnQ.n p.done)+p.base.length+(p.tent.length+nmL TxnQ.n p.tent)+(p.undos.length+nmL USQ.n p.undos)+p.now.length
def RepQ.wf(p:RepQ):Prop:=(p.done.length≤9223372036854775807∧∀q∈p.done,TxnQ.wf q)∧p.base.length≤9223372036854775807∧(p.tent.length≤9223372036854775807∧∀q∈p.tent,TxnQ.wf q)∧(p.undos.length≤9223372036854775807∧∀q∈p.undos,USQ.wf q)∧p.now.length≤9223372036854775807
theorem z9y(p:RepQ)(c:Int)(w:World)(h:repK.rd w p)(hn:RepQ.wf p)(h0:0≤c)(h1:c≤1048576):
  Calls Q 59 #[.agg #[p.vd,p.vb,p.vt,p.vu,p.vn],F G c] w fun e w'=>∃r:Int,e=.returned (F G r)∧(¬r<0→(RepQ.n p:Int)+r=c)∧Below w.heap.size w w':=by
 obtain⟨vd,done,vb,base,vt,x,vu,d,vn,y⟩:=p;obtain⟨V,X,Y,Z,aa⟩:txnK.At w vd done∧itemK.At w vb base∧txnK.At w vt x∧ussK.At w vu d∧itemK.At w vn y:=h;obtain⟨z,ab,A,C,ad⟩:(done.length≤9223372036854775807∧∀p∈done,TxnQ.wf p)∧base.length≤9223372036854775807∧(x.length≤9223372036854775807∧∀p∈x,TxnQ.wf p)∧(d.length≤9223372036854775807∧∀p∈d,USQ.wf p)∧y.length≤9223372036854775807:=hn;obtain⟨a0,k0,rfl⟩:=V.shape;obtain⟨a1,k1,rfl⟩:=X.shape;obtain⟨a2,k2,rfl⟩:=Y.shape;obtain⟨a3,k3,rfl⟩:=Z.shape;obtain⟨a4,k4,rfl⟩:=aa.shape;have B:=Blk.new w 83 #[K a0 done.length k0,K a1 base.length k1,K a2 x.length k2,K a3 d.length k3,K a4 y.length k4];have hB:Below w.heap.size w (w.alloc (.cells #[K a0 done.length k0,K a1 base.length k1,K a2 x.length k2,K a3 d.length k3,K a4 y.length k4] 83)):=by go_grown
 dsimp only[RepQ.n];go_enter func59,ntmps59
 go_wp2_with fail
 generalize w.alloc (.cells #[K a0 done.length k0,K a1 base.length k1,K a2 x.length k2,K a3 d.length k3,K a4 y.length k4] 83)=W at*;refine(z7c _ done c W (V.below hB) z.1 z.2 (by omega) (by omega)).mono ?_;rintro e w0 ⟨r0,rfl,ae,D⟩;replace B:=B.below D;replace hB:=hB.trans (D.mono hB.size);clear D;by_cases M:r0<0
 ·go_wp2
  go_ret;exact⟨_,rfl,fun h=>by omega,hB⟩
 have aj:=ae M;clear ae;have p1:=B.cell 1 _ rfl
 go_wp2_with fail
 clear p1;refine(z8l _ base r0 w0 (X.below hB) ab (by omega) (by omega)).mono ?_;rintro e w1 ⟨r1,rfl,af,E⟩;replace B:=B.below E;replace hB:=hB.trans (E.mono hB.size);clear E;by_cases N:r1<0
 ·go_wp2
  go_ret;exact⟨_,rfl,fun h=>by omega,hB⟩
 have ak:=af N;clear af;have p2:=B.cell 2 _ rfl
 go_wp2_with fail
 clear p2;refine(z7c _ x r1 w1 (Y.below hB) A.1 A.2 (by omega) (by omega)).mono ?_;rintro e w2 ⟨r2,rfl,ag,I⟩;replace B:=B.below I;replace hB:=hB.trans (I.mono hB.size);clear I;by_cases O:r2<0
 ·go_wp2
  go_ret;exact⟨_,rfl,fun h=>by omega,hB⟩
 have al:=ag O;clear ag;have p3:=B.cell 3 _ rfl
 go_wp2_with fail
 clear p3;refine(q48 _ d r2 w2 (Z.below hB) C.1 C.2 (by omega) (by omega)).mono ?_;rintro e w3 ⟨r3,rfl,ah,J⟩;replace B:=B.below J;replace hB:=hB.trans (J.mono hB.size);clear J;by_cases T:r3<0
 ·go_wp2
  go_ret;exact⟨_,rfl,fun h=>by omega,hB⟩
 have am:=ah T;clear ah;have p4:=B.cell 4 _ rfl
 go_wp2_with fail
 clear p4;refine(z8l _ y r3 w3 (aa.below hB) ad (by omega) (by omega)).mono ?_;rintro e w4 ⟨r4,rfl,ai,L⟩;replace B:=B.below L;replace hB:=hB.trans (L.mono hB.size);clear L;by_cases U:r4<0
 ·go_wp2
  go_ret;exact⟨_,rfl,fun h=>by omega,hB⟩
 have an:=ai U;clear ai
 go_wp2
 go_ret;exact⟨_,rfl,fun _=>by omega,hB⟩
theorem z9z(p p':RepQ)(w:World)(h:repK.rd w p)(h':repK.rd w p')(he:p.e=p'.e)(hl:RepQ.n p≤1048576):
  Calls Q 92 #[.agg #[p.vd,p.vb,p.vt,p.vu,p.vn],.agg #[p'.vd,p'.vb,p'.vt,p'.vu,p'.vn]] w fun e w'=>e=.returned (.bool true)∧Below w.heap.size w w':=by
 obtain⟨vd,done,vb,base,vt,A,vu,d,vn,z⟩:=p;obtain⟨an,x,am,M,ap,y,aq,c,ao,al⟩:=p';simp only[RepQ.e,RepE.mk.injEq]at he;obtain⟨N,ar,O,T,au⟩:=he;dsimp only[RepQ.n]at hl;obtain⟨aa,ab,ad,ae,af⟩:txnK.At w vd done∧itemK.At w vb base∧txnK.At w vt A∧ussK.At w vu d∧itemK.At w vn z:=h;obtain⟨U,V,X,Y,Z⟩:txnK.At w an x∧itemK.At w am M∧txnK.At w ap y∧ussK.At w aq c∧itemK.At w ao al:=h';subst ar;subst au;have ag:=fun w h1 h2=>z7d vd an done x w h1 h2 N (by omega)
 have ah:=fun w h1 h2=>z8n vb am base w h1 h2 (by omega)
 have ai:=fun w h1 h2=>z7d vt ap A y w h1 h2 O (by omega)
 have aj:=fun w h1 h2=>q49 vu aq d c w h1 h2 T (by omega)
 have ak:=fun w h1 h2=>z8n vn ao z w h1 h2 (by omega)
 obtain⟨a0,k0,rfl⟩:=aa.shape;obtain⟨b0,m0,rfl⟩:=U.shape;obtain⟨a1,k1,rfl⟩:=ab.shape;obtain⟨b1,m1,rfl⟩:=V.shape;obtain⟨a2,k2,rfl⟩:=ad.shape;obtain⟨b2,m2,rfl⟩:=X.shape;obtain⟨a3,k3,rfl⟩:=ae.shape;obtain⟨b3,m3,rfl⟩:=Y.shape;obtain⟨a4,k4,rfl⟩:=af.shape;obtain⟨b4,m4,rfl⟩:=Z.shape;have B:=(Blk.new w 55 #[K a0 done.length k0,K a1 base.length k1,K a2 A.length k2,K a3 d.length k3,K a4 z.length k4]).below (w':=(w.alloc (.cells #[K a0 done.length k0,K a1 base.length k1,K a2 A.length k2,K a3 d.length k3,K a4 z.length k4] 55)).alloc (.cells #[K b0 x.length m0,K b1 base.length m1,K b2 y.length m2,K b3 c.length m3,K b4 z.length m4] 55)) (by go_grown);have C:=Blk.new (w.alloc (.cells #[K a0 done.length k0,K a1 base.length k1,K a2 A.length k2,K a3 d.length k3,K a4 z.length k4] 55)) 55 #[K b0 x.length m0,K b1 base.length m1,K b2 y.length m2,K b3 c.length m3,K b4 z.length m4];have hB:Below w.heap.size w ((w.alloc (.cells #[K a0 done.length k0,K a1 base.length k1,K a2 A.length k2,K a3 d.length k3,K a4 z.length k4] 55)).alloc (.cells #[K b0 x.length m0,K b1 base.length m1,K b2 y.length m2,K b3 c.length m3,K b4 z.length m4] 55)):=by go_grown
 rw[World.size_alloc]at C;clear N O T;go_enter func92,ntmps92
 go_wp2_with fail
 generalize (w.alloc (.cells #[K a0 done.length k0,K a1 base.length k1,K a2 A.length k2,K a3 d.length k3,K a4 z.length k4] 55)).alloc (.cells #[K b0 x.length m0,K b1 base.length m1,K b2 y.length m2,K b3 c.length m3,K b4 z.length m4] 55)=W at*;refine(ag W (aa.below hB) (U.below hB)).mono ?_;rintro e w0 ⟨rfl,D⟩;replace B:=B.below D;replace C:=C.below D;replace hB:=hB.trans (D.mono hB.size);clear D ag;have p1:=B.cell 1 _ rfl;have q1:=C.cell 1 _ rfl
 go_wp2_with fail
 clear p1 q1;refine(ah w0 (ab.below hB) (V.below hB)).mono ?_;rintro e w1 ⟨rfl,E⟩;replace B:=B.below E;replace C:=C.below E;replace hB:=hB.trans (E.mono hB.size);clear E ah;have p2:=B.cell 2 _ rfl;have q2:=C.cell 2 _ rfl
 go_wp2_with fail
 clear p2 q2;refine(ai w1 (ad.below hB) (X.below hB)).mono ?_;rintro e w2 ⟨rfl,I⟩;replace B:=B.below I;replace C:=C.below I;replace hB:=hB.trans (I.mono hB.size);clear I ai;have p3:=B.cell 3 _ rfl;have q3:=C.cell 3 _ rfl
 go_wp2_with fail
 clear p3 q3;refine(aj w2 (ae.below hB) (Y.below hB)).mono ?_;rintro e w3 ⟨rfl,J⟩;replace B:=B.below J;replace C:=C.below J;replace hB:=hB.trans (J.mono hB.size);clear J aj;have p4:=B.cell 4 _ rfl;have q4:=C.cell 4 _ rfl
 go_wp2_with fail
 clear p4 q4;refine(ak w3 (af.below hB) (Z.below hB)).mono ?_;rintro e w4 ⟨rfl,L⟩;replace B:=B.below L;replace C:=C.below L;replace hB:=hB.trans (L.mono hB.size);clear L ak
 go_wp2
 go_ret;exact⟨rfl,hB⟩
theorem z3s{A B:List Nat}{m:Nat}(hA:∀k∈A,k<m)(hB:∀k∈B,m≤k):∀a∈A,∀b∈B,a≠b:=fun a ha b hb e=>by
 have:=hA a ha;have:=hB b hb;omega
theorem z9A(p:RepQ)(w:World)(h:repK.rd w p)(hl:RepQ.n p≤1048576):
  Calls Q 74 #[.agg #[p.vd,p.vb,p.vt,p.vu,p.vn]] w fun e w'=>∃p':RepQ,e=.returned (.agg #[p'.vd,p'.vb,p'.vt,p'.vu,p'.vn])∧p'.e=p.e∧repK.own w' p'∧(repK.foot p').Nodup∧(∀k∈repK.foot p',w.heap.size≤k)∧Below w.heap.size w w':=by
 obtain⟨vd,done,vb,base,vt,E,vu,c,vn,y⟩:=p;dsimp only[RepQ.n]at hl;obtain⟨N,O,T,U,V⟩:txnK.At w vd done∧itemK.At w vb base∧txnK.At w vt E∧ussK.At w vu c∧itemK.At w vn y:=h;have X:=fun w h1=>z7e vd done w h1 (by omega)
 have Y:=fun w h1=>z8m vb base w h1 (by omega)
 have Z:=fun w h1=>z7e vt E w h1 (by omega)
 have aa:=fun w h1=>q5a vu c w h1 (by omega)
 have ab:=fun w h1=>z8m vn y w h1 (by omega)
 obtain⟨a0,k0,rfl⟩:=N.shape;obtain⟨a1,k1,rfl⟩:=O.shape;obtain⟨a2,k2,rfl⟩:=T.shape;obtain⟨a3,k3,rfl⟩:=U.shape;obtain⟨a4,k4,rfl⟩:=V.shape;have B:=(Blk.new w 83 #[K a0 done.length k0,K a1 base.length k1,K a2 E.length k2,K a3 c.length k3,K a4 y.length k4]).below (w':=((w.alloc (.cells #[K a0 done.length k0,K a1 base.length k1,K a2 E.length k2,K a3 c.length k3,K a4 y.length k4] 83)).alloc (.cells #[K none 0 0,K none 0 0,K none 0 0,K none 0 0,K none 0 0] 55)).alloc (.cells #[K none 0 0,K none 0 0,K none 0 0,K none 0 0,K none 0 0] 55)) (by go_grown);have C:=(Blk.new (w.alloc (.cells #[K a0 done.length k0,K a1 base.length k1,K a2 E.length k2,K a3 c.length k3,K a4 y.length k4] 83)) 55 #[K none 0 0,K none 0 0,K none 0 0,K none 0 0,K none 0 0]).below (w':=((w.alloc (.cells #[K a0 done.length k0,K a1 base.length k1,K a2 E.length k2,K a3 c.length k3,K a4 y.length k4] 83)).alloc (.cells #[K none 0 0,K none 0 0,K none 0 0,K none 0 0,K none 0 0] 55)).alloc (.cells #[K none 0 0,K none 0 0,K none 0 0,K none 0 0,K none 0 0] 55)) (by go_grown);have D:=Blk.new ((w.alloc (.cells #[K a0 done.length k0,K a1 base.length k1,K a2 E.length k2,K a3 c.length k3,K a4 y.length k4] 83)).alloc (.cells #[K none 0 0,K none 0 0,K none 0 0,K none 0 0,K none 0 0] 55)) 55 #[K none 0 0,K none 0 0,K none 0 0,K none 0 0,K none 0 0];have hB:Below w.heap.size w (((w.alloc (.cells #[K a0 done.length k0,K a1 base.length k1,K a2 E.length k2,K a3 c.length k3,K a4 y.length k4] 83)).alloc (.cells #[K none 0 0,K none 0 0,K none 0 0,K none 0 0,K none 0 0] 55)).alloc (.cells #[K none 0 0,K none 0 0,K none 0 0,K none 0 0,K none 0 0] 55)):=by go_grown
 simp only[World.size_alloc]at C D;have hS:w.heap.size+3≤(((w.alloc (.cells #[K a0 done.length k0,K a1 base.length k1,K a2 E.length k2,K a3 c.length k3,K a4 y.length k4] 83)).alloc (.cells #[K none 0 0,K none 0 0,K none 0 0,K none 0 0,K none 0 0] 55)).alloc (.cells #[K none 0 0,K none 0 0,K none 0 0,K none 0 0,K none 0 0] 55)).heap.size:=by simp only[World.size_alloc];omega
 go_enter func74,ntmps74
 go_wp2_with fail
 generalize ((w.alloc (.cells #[K a0 done.length k0,K a1 base.length k1,K a2 E.length k2,K a3 c.length k3,K a4 y.length k4] 83)).alloc (.cells #[K none 0 0,K none 0 0,K none 0 0,K none 0 0,K none 0 0] 55)).alloc (.cells #[K none 0 0,K none 0 0,K none 0 0,K none 0 0,K none 0 0] 55)=W at*;refine(X W (N.below hB)).mono ?_;rintro e y0 ⟨v0,q0,rfl,E0,O0,N0,G0,hb⟩;replace B:=B.below hb;replace C:=C.below hb;replace D:=D.below hb;replace hB:=hB.trans (hb.mono hB.size);have s0:=hb.size;obtain⟨x0,z0,rfl⟩:=O0.shape;clear hb X;have p1:=B.cell 1 _ rfl;have d0:=D.cell 0 _ rfl;have f0:=D.frozen 0
 go_wp2_with fail
 clear p1 d0 f0;have U0:=(Out.refl [w.heap.size+1,w.heap.size+1+1] y0).set (b:=w.heap.size+1+1) (j:=0) (u:=K x0 q0.length z0) (by simp);replace D:=D.set 0 (K x0 q0.length z0);replace B:=B.other (b':=w.heap.size+1+1) (by omega) 0 (K x0 q0.length z0);replace C:=C.other (b':=w.heap.size+1+1) (by omega) 0 (K x0 q0.length z0);replace hB:=hB.setCell (p:=⟨w.heap.size+1+1,0,none⟩) (by show w.heap.size≤w.heap.size+1+1;omega) (K x0 q0.length z0);simp only[pjE]at D;have t0:=U0.size;generalize y0.setCell ⟨w.heap.size+1+1,0,none⟩ (K x0 q0.length z0)=V0 at*;refine(Y V0 (O.below hB)).mono ?_;rintro e y1 ⟨v1,rfl,O1,N1,G1,hb⟩;replace U0:=U0.call hb;replace B:=B.below hb;replace C:=C.below hb;replace D:=D.below hb;replace hB:=hB.trans (hb.mono hB.size);have s1:=hb.size;obtain⟨x1,z1,rfl⟩:=O1.shape;clear hb Y;have p2:=B.cell 2 _ rfl;have d1:=D.cell 1 _ rfl;have f1:=D.frozen 1
 go_wp2_with fail
 clear p2 d1 f1;have U1:=(Out.refl [w.heap.size+1,w.heap.size+1+1] y1).set (b:=w.heap.size+1+1) (j:=1) (u:=K x1 base.length z1) (by simp);replace U0:=U0.set (b:=w.heap.size+1+1) (j:=1) (u:=K x1 base.length z1) (by simp);replace D:=D.set 1 (K x1 base.length z1);replace B:=B.other (b':=w.heap.size+1+1) (by omega) 1 (K x1 base.length z1);replace C:=C.other (b':=w.heap.size+1+1) (by omega) 1 (K x1 base.length z1);replace hB:=hB.setCell (p:=⟨w.heap.size+1+1,1,none⟩) (by show w.heap.size≤w.heap.size+1+1;omega) (K x1 base.length z1);simp only[pjE]at D;have t1:=U1.size;generalize y1.setCell ⟨w.heap.size+1+1,1,none⟩ (K x1 base.length z1)=V1 at*;refine(Z V1 (T.below hB)).mono ?_;rintro e y2 ⟨v2,q2,rfl,E2,O2,N2,G2,hb⟩;replace U0:=U0.call hb;replace U1:=U1.call hb;replace B:=B.below hb;replace C:=C.below hb;replace D:=D.below hb;replace hB:=hB.trans (hb.mono hB.size);have s2:=hb.size;obtain⟨x2,z2,rfl⟩:=O2.shape;clear hb Z;have p3:=B.cell 3 _ rfl;have d2:=D.cell 2 _ rfl;have f2:=D.frozen 2
 go_wp2_with fail
 clear p3 d2 f2;have U2:=(Out.refl [w.heap.size+1,w.heap.size+1+1] y2).set (b:=w.heap.size+1+1) (j:=2) (u:=K x2 q2.length z2) (by simp);replace U0:=U0.set (b:=w.heap.size+1+1) (j:=2) (u:=K x2 q2.length z2) (by simp);replace U1:=U1.set (b:=w.heap.size+1+1) (j:=2) (u:=K x2 q2.length z2) (by simp);replace D:=D.set 2 (K x2 q2.length z2);replace B:=B.other (b':=w.heap.size+1+1) (by omega) 2 (K x2 q2.length z2);replace C:=C.other (b':=w.heap.size+1+1) (by omega) 2 (K x2 q2.length z2);replace hB:=hB.setCell (p:=⟨w.heap.size+1+1,2,none⟩) (by show w.heap.size≤w.heap.size+1+1;omega) (K x2 q2.length z2);simp only[pjE]at D;have t2:=U2.size;generalize y2.setCell ⟨w.heap.size+1+1,2,none⟩ (K x2 q2.length z2)=V2 at*;refine(aa V2 (U.below hB)).mono ?_;rintro e y3 ⟨v3,q3,rfl,E3,O3,N3,G3,hb⟩;replace U0:=U0.call hb;replace U1:=U1.call hb;replace U2:=U2.call hb;replace B:=B.below hb;replace C:=C.below hb;replace D:=D.below hb;replace hB:=hB.trans (hb.mono hB.size);have s3:=hb.size;obtain⟨x3,z3,rfl⟩:=O3.shape;clear hb aa;have p4:=B.cell 4 _ rfl;have d3:=D.cell 3 _ rfl;have f3:=D.frozen 3
 go_wp2_with fail
 clear p4 d3 f3;have U3:=(Out.refl [w.heap.size+1,w.heap.size+1+1] y3).set (b:=w.heap.size+1+1) (j:=3) (u:=K x3 q3.length z3) (by simp);replace U0:=U0.set (b:=w.heap.size+1+1) (j:=3) (u:=K x3 q3.length z3) (by simp);replace U1:=U1.set (b:=w.heap.size+1+1) (j:=3) (u:=K x3 q3.length z3) (by simp);replace U2:=U2.set (b:=w.heap.size+1+1) (j:=3) (u:=K x3 q3.length z3) (by simp);replace D:=D.set 3 (K x3 q3.length z3);replace B:=B.other (b':=w.heap.size+1+1) (by omega) 3 (K x3 q3.length z3);replace C:=C.other (b':=w.heap.size+1+1) (by omega) 3 (K x3 q3.length z3);replace hB:=hB.setCell (p:=⟨w.heap.size+1+1,3,none⟩) (by show w.heap.size≤w.heap.size+1+1;omega) (K x3 q3.length z3);simp only[pjE]at D;have t3:=U3.size;generalize y3.setCell ⟨w.heap.size+1+1,3,none⟩ (K x3 q3.length z3)=V3 at*;refine(ab V3 (V.below hB)).mono ?_;rintro e y4 ⟨v4,rfl,O4,N4,G4,hb⟩;replace U0:=U0.call hb;replace U1:=U1.call hb;replace U2:=U2.call hb;replace U3:=U3.call hb;replace B:=B.below hb;replace C:=C.below hb;replace D:=D.below hb;replace hB:=hB.trans (hb.mono hB.size);have s4:=hb.size;obtain⟨x4,z4,rfl⟩:=O4.shape;clear hb ab;clear B;have d0:=D.cell 0 _ rfl;have f0:=D.frozen 0;have c0:=C.cell 0 _ rfl;have g0:=C.frozen 0;have d1:=D.cell 1 _ rfl;have f1:=D.frozen 1;have c1:=C.cell 1 _ rfl;have g1:=C.frozen 1;have d2:=D.cell 2 _ rfl;have f2:=D.frozen 2;have c2:=C.cell 2 _ rfl;have g2:=C.frozen 2;have d3:=D.cell 3 _ rfl;have f3:=D.frozen 3;have c3:=C.cell 3 _ rfl;have g3:=C.frozen 3;have d4:=D.cell 4 _ rfl;have f4:=D.frozen 4;have c4:=C.cell 4 _ rfl;have g4:=C.frozen 4;have R:Hid (∀j u j' u' L M I J z A d x,repK.own ((((((y4.setCell ⟨w.heap.size+1+1,j,none⟩ u).setCell ⟨w.heap.size+1,j',none⟩ u').setCell ⟨w.heap.size+1,L,none⟩ M).setCell ⟨w.heap.size+1,I,none⟩ J).setCell ⟨w.heap.size+1,z,none⟩ A).setCell ⟨w.heap.size+1,d,none⟩ x) ⟨K x0 q0.length z0,q0,K x1 base.length z1,base,K x2 q2.length z2,q2,K x3 q3.length z3,q3,K x4 y.length z4,y⟩∧Below w.heap.size w ((((((y4.setCell ⟨w.heap.size+1+1,j,none⟩ u).setCell ⟨w.heap.size+1,j',none⟩ u').setCell ⟨w.heap.size+1,L,none⟩ M).setCell ⟨w.heap.size+1,I,none⟩ J).setCell ⟨w.heap.size+1,z,none⟩ A).setCell ⟨w.heap.size+1,d,none⟩ x)):=by
  intro j u j' u' L M I J z A d x;have X0:=((((((U0.set (b:=w.heap.size+1+1) (j:=j) (u:=u) (by simp)).set (b:=w.heap.size+1) (j:=j') (u:=u') (by simp)).set (b:=w.heap.size+1) (j:=L) (u:=M) (by simp)).set (b:=w.heap.size+1) (j:=I) (u:=J) (by simp)).set (b:=w.heap.size+1) (j:=z) (u:=A) (by simp)).set (b:=w.heap.size+1) (j:=d) (u:=x) (by simp))
  have X1:=((((((U1.set (b:=w.heap.size+1+1) (j:=j) (u:=u) (by simp)).set (b:=w.heap.size+1) (j:=j') (u:=u') (by simp)).set (b:=w.heap.size+1) (j:=L) (u:=M) (by simp)).set (b:=w.heap.size+1) (j:=I) (u:=J) (by simp)).set (b:=w.heap.size+1) (j:=z) (u:=A) (by simp)).set (b:=w.heap.size+1) (j:=d) (u:=x) (by simp))
  have X2:=((((((U2.set (b:=w.heap.size+1+1) (j:=j) (u:=u) (by simp)).set (b:=w.heap.size+1) (j:=j') (u:=u') (by simp)).set (b:=w.heap.size+1) (j:=L) (u:=M) (by simp)).set (b:=w.heap.size+1) (j:=I) (u:=J) (by simp)).set (b:=w.heap.size+1) (j:=z) (u:=A) (by simp)).set (b:=w.heap.size+1) (j:=d) (u:=x) (by simp))
  have X3:=((((((U3.set (b:=w.heap.size+1+1) (j:=j) (u:=u) (by simp)).set (b:=w.heap.size+1) (j:=j') (u:=u') (by simp)).set (b:=w.heap.size+1) (j:=L) (u:=M) (by simp)).set (b:=w.heap.size+1) (j:=I) (u:=J) (by simp)).set (b:=w.heap.size+1) (j:=z) (u:=A) (by simp)).set (b:=w.heap.size+1) (j:=d) (u:=x) (by simp))
  have X4:=(((((((Out.refl [w.heap.size+1,w.heap.size+1+1] y4).set (b:=w.heap.size+1+1) (j:=j) (u:=u) (by simp)).set (b:=w.heap.size+1) (j:=j') (u:=u') (by simp)).set (b:=w.heap.size+1) (j:=L) (u:=M) (by simp)).set (b:=w.heap.size+1) (j:=I) (u:=J) (by simp)).set (b:=w.heap.size+1) (j:=z) (u:=A) (by simp)).set (b:=w.heap.size+1) (j:=d) (u:=x) (by simp))
  refine⟨⟨O0.out X0 (fun k hk=>?_),O1.out X1 (fun k hk=>?_),O2.out X2 (fun k hk=>?_),O3.out X3 (fun k hk=>?_),O4.out X4 (fun k hk=>?_)⟩,?_⟩
  ·have:=G0 k hk;simp only[List.mem_cons,List.not_mem_nil,or_false];omega
  ·have:=G1 k hk;simp only[List.mem_cons,List.not_mem_nil,or_false];omega
  ·have:=G2 k hk;simp only[List.mem_cons,List.not_mem_nil,or_false];omega
  ·have:=G3 k hk;simp only[List.mem_cons,List.not_mem_nil,or_false];omega
  ·have:=G4 k hk;simp only[List.mem_cons,List.not_mem_nil,or_false];omega
  ·exact((((((hB.setCell (p:=⟨w.heap.size+1+1,j,none⟩) (by show w.heap.size≤w.heap.size+1+1;omega) u).setCell (p:=⟨w.heap.size+1,j',none⟩) (by show w.heap.size≤w.heap.size+1;omega) u').setCell (p:=⟨w.heap.size+1,L,none⟩) (by show w.heap.size≤w.heap.size+1;omega) M).setCell (p:=⟨w.heap.size+1,I,none⟩) (by show w.heap.size≤w.heap.size+1;omega) J).setCell (p:=⟨w.heap.size+1,z,none⟩) (by show w.heap.size≤w.heap.size+1;omega) A).setCell (p:=⟨w.heap.size+1,d,none⟩) (by show w.heap.size≤w.heap.size+1;omega) x)
 have R1:Hid ((repK.foot ⟨K x0 q0.length z0,q0,K x1 base.length z1,base,K x2 q2.length z2,q2,K x3 q3.length z3,q3,K x4 y.length z4,y⟩).Nodup∧(∀k∈repK.foot ⟨K x0 q0.length z0,q0,K x1 base.length z1,base,K x2 q2.length z2,q2,K x3 q3.length z3,q3,K x4 y.length z4,y⟩,w.heap.size≤k)):=by
  have L0:=O0.lt;have L1:=O1.lt;have L2:=O2.lt;have L3:=O3.lt;have L4:=O4.lt;have T0:=U0.size;have T1:=U1.size;have T2:=U2.size;have T3:=U3.size;refine⟨?_,?_⟩
  ·show List.Nodup (_++_);exact List.nodup_append.2 ⟨N0,List.nodup_append.2 ⟨N1,List.nodup_append.2 ⟨N2,List.nodup_append.2 ⟨N3,N4,z3s (m:=(V3).heap.size) (fun k hk=>by have:=L3 k hk;omega) (fun k hk=>by have:=G4 k hk;omega)⟩,z3s (m:=(V2).heap.size) (fun k hk=>by have:=L2 k hk;omega) (fun k hk=>by rcases List.mem_append.1 hk with hk|hk<;>first|(have:=G3 k hk;omega)|(have:=G4 k hk;omega))⟩,z3s (m:=(V1).heap.size) (fun k hk=>by have:=L1 k hk;omega) (fun k hk=>by rcases List.mem_append.1 hk with hk|hk<;>first|(have:=G2 k hk;omega)|(rcases List.mem_append.1 hk with hk|hk<;>first|(have:=G3 k hk;omega)|(have:=G4 k hk;omega)))⟩,z3s (m:=(V0).heap.size) (fun k hk=>by have:=L0 k hk;omega) (fun k hk=>by rcases List.mem_append.1 hk with hk|hk<;>first|(have:=G1 k hk;omega)|(rcases List.mem_append.1 hk with hk|hk<;>first|(have:=G2 k hk;omega)|(rcases List.mem_append.1 hk with hk|hk<;>first|(have:=G3 k hk;omega)|(have:=G4 k hk;omega))))⟩
  ·exact(fun k hk=>by rcases List.mem_append.1 hk with hk|hk<;>first|(have:=G0 k hk;omega)|(rcases List.mem_append.1 hk with hk|hk<;>first|(have:=G1 k hk;omega)|(rcases List.mem_append.1 hk with hk|hk<;>first|(have:=G2 k hk;omega)|(rcases List.mem_append.1 hk with hk|hk<;>first|(have:=G3 k hk;omega)|(have:=G4 k hk;omega)))))
 have R2:Hid (RepQ.e ⟨K x0 q0.length z0,q0,K x1 base.length z1,base,K x2 q2.length z2,q2,K x3 q3.length z3,q3,K x4 y.length z4,y⟩=RepQ.e ⟨K a0 done.length k0,done,K a1 base.length k1,base,K a2 E.length k2,E,K a3 c.length k3,c,K a4 y.length k4,y⟩):=show _=_ by simp only[RepQ.e,E0,E2,E3]
 clear O0 N0 G0 O1 N1 G1 O2 N2 G2 O3 N3 G3 O4 N4 G4 U0 U1 U2 U3 E0 E2 E3 hB C D N O T U V
 go_wp2
 exact bodyPost_ret (v:=.agg #[K x0 q0.length z0,K x1 base.length z1,K x2 q2.length z2,K x3 q3.length z3,K x4 y.length z4]) (by simp[results,results74,go_sem,c0,c1,c2,c3,c4]) rfl ⟨⟨K x0 q0.length z0,q0,K x1 base.length z1,base,K x2 q2.length z2,q2,K x3 q3.length z3,q3,K x4 y.length z4,y⟩,rfl,R2.out,(R.out _ _ _ _ _ _ _ _ _ _ _ _).1,R1.out.1,R1.out.2,(R.out _ _ _ _ _ _ _ _ _ _ _ _).2⟩
def q6J:List Value:=[
 F G 2,F G 0,F G 0,F G 0,.bool true,.bool false,F G 0,
 F G 0,F G 2,F G 1,F G 0,.bool true,.bool false,F G 1,
 F G 1,F G 0,F G 2,F G 0,.bool false,.bool false,F G 0,
 F G 0,F G 1,F G 2,F G 0,.bool false,.bool false,F G 1,
 F G 0,F G 0,F G 2,F G 0,.bool false,.bool true,F G 0]
def Rul(w:World):Prop:=∀i v,q6J[i]?=some v→w.cell? ⟨1,i,none⟩=some v
theorem Rul.below{w w':World}(h:Rul w)(hb:Below w.heap.size w w'):Rul w':=by
 intro i v hv;have h1:=h i v hv;rw[hb.cell (p:=⟨1,i,none⟩) (World.block_lt_of_cell? w ⟨1,i,none⟩ h1)];exact h1
abbrev fl(n:Int):Nat:=floatOfInt FloatKind.f64 n
theorem q5b:∀a∈[(0:Int),1,2,3],∀b∈[(0:Int),1,2,3],(FloatKind.f64.format.order (fl a) (fl b)==some .gt||FloatKind.f64.format.order (fl a) (fl b)==some .eq)=decide (b≤a):=by decide+kernel
theorem q5c:∀a∈[(0:Int),1,2,3],(FloatKind.f64.format.order (fl a) 0==some .gt)=decide (0<a):=by decide+kernel
theorem q3H{a:Int}(h:0≤a∧a≤3):a∈[(0:Int),1,2,3]:=by
 have:a=0∨a=1∨a=2∨a=3:=by omega
 rcases this with rfl|rfl|rfl|rfl<;>simp
theorem q4F{a b:Int}(ha:0≤a∧a≤3)(hb:0≤b∧b≤3):(FloatKind.f64.format.order (fl a) (fl b)==some .gt||FloatKind.f64.format.order (fl a) (fl b)==some .eq)=decide (b≤a):=q5b a (q3H ha) b (q3H hb)
theorem q4G{a:Int}(ha:0≤a∧a≤3):(FloatKind.f64.format.order (fl a) 0==some .gt)=decide (0<a):=q5c a (q3H ha)
def q5X(zi oi pr:Int)(d k:Bool)(vl:Int):Value:=.agg #[F G zi,F G oi,F G pr,F G 0,.bool d,.bool k,F G vl]
theorem q3Q(zi oi pr:Int)(d k:Bool)(vl z o:Int)(w:World)(hzi:0≤zi∧zi≤3)(hoi:0≤oi∧oi≤3)(hz:0≤z∧z≤3)(ho:0≤o∧o≤3):
  Calls Q 254 #[q5X zi oi pr d k vl,.complex .f64 (fl z) (fl o)] w fun e w'=>e=.returned (.bool (decide (zi≤z) && decide (oi≤o)))∧Below w.heap.size w w':=by
 have f1:=q4F hz hzi;have f2:=q4F ho hoi;unfold q5X;generalize fl z=z0 at f1⊢;generalize fl o=o0 at f2⊢;dsimp only[fl]at f1 f2;by_cases h1:zi≤z
 ·have d1:decide (zi≤z)=true:=decide_eq_true h1;rw[d1]at f1⊢;generalize decide (oi≤o)=t at f2⊢;clear h1 d1 hzi hoi hz ho;go_enter func254,ntmps254
  go_wp2
  go_ret;exact⟨by simp[f2],by go_grown⟩
 ·have d1:decide (zi≤z)=false:=decide_eq_false h1;rw[d1]at f1⊢;clear h1 d1 hzi hoi hz ho f2;go_enter func254,ntmps254
  go_wp2
  go_ret;exact⟨by simp,by go_grown⟩
def rz(k:Nat):Int:=[2,0,1,0,0].getD k 0
def ro(k:Nat):Int:=[0,2,0,1,0].getD k 0
def rp(k:Nat):Int:=[0,1,2,2,2].getD k 0
def rd(k:Nat):Bool:=[true,true,false,false,false].getD k false
def rc(k:Nat):Bool:=[false,false,false,false,true].getD k false
def rv(k:Nat):Int:=[0,1,0,1,0].getD k 0
def q59(k:Nat):Value:=q5X (rz k) (ro k) (rp k) (rd k) (rc k) (rv k)
def q3R(k:Nat)(z o:Int):Bool:=decide (rz k≤z) && decide (ro k≤o)
def pick5(z o:Int):Nat:=if 2≤z then 0 else if 2≤o then 1 else if 1≤z then 2 else if 1≤o then 3 else 4
theorem q6K:∀z∈[(0:Int),1,2,3],∀o∈[(0:Int),1,2,3],pick5 z o≤4∧∀k,k<5→k≤pick5 z o→(q3R k z o=true→k=pick5 z o)∧(q3R k z o=false→k+1≤pick5 z o):=by decide+kernel
theorem q5d{z o:Int}(hz:0≤z∧z≤3)(ho:0≤o∧o≤3):pick5 z o≤4∧∀k,k<5→k≤pick5 z o→(q3R k z o=true→k=pick5 z o)∧(q3R k z o=false→k+1≤pick5 z o):=q6K z (q3H hz) o (q3H ho)
theorem q6a{w:World}(h:Rul w)(k:Nat)(hk:k<5):w.cell? ⟨1,k*7,none⟩=some (F G (rz k))∧w.cell? ⟨1,k*7+1,none⟩=some (F G (ro k))∧w.cell? ⟨1,k*7+2,none⟩=some (F G (rp k))∧w.cell? ⟨1,k*7+3,none⟩=some (F G 0)∧
  w.cell? ⟨1,k*7+4,none⟩=some (.bool (rd k))∧w.cell? ⟨1,k*7+5,none⟩=some (.bool (rc k))∧w.cell? ⟨1,k*7+6,none⟩=some (F G (rv k)):=by
 match k,hk with
 |0,_=>exact⟨h _ _ rfl,h _ _ rfl,h _ _ rfl,h _ _ rfl,h _ _ rfl,h _ _ rfl,h _ _ rfl⟩
 |1,_=>exact⟨h _ _ rfl,h _ _ rfl,h _ _ rfl,h _ _ rfl,h _ _ rfl,h _ _ rfl,h _ _ rfl⟩
 |2,_=>exact⟨h _ _ rfl,h _ _ rfl,h _ _ rfl,h _ _ rfl,h _ _ rfl,h _ _ rfl,h _ _ rfl⟩
 |3,_=>exact⟨h _ _ rfl,h _ _ rfl,h _ _ rfl,h _ _ rfl,h _ _ rfl,h _ _ rfl,h _ _ rfl⟩
 |4,_=>exact⟨h _ _ rfl,h _ _ rfl,h _ _ rfl,h _ _ rfl,h _ _ rfl,h _ _ rfl,h _ _ rfl⟩
theorem q6Z(k:Nat)(hk:k<5):(0≤rz k∧rz k≤3)∧(0≤ro k∧ro k≤3):=by
 match k,hk with
 |0,_=>decide
 |1,_=>decide
 |2,_=>decide
 |3,_=>decide
 |4,_=>decide
theorem z5D(z o:Int)(w:World)(hG:Rul w)(hz:0≤z∧z≤3)(ho:0≤o∧o≤3):
  Calls Q 239 #[.complex .f64 (fl z) (fl o)] w fun e w'=>e=.returned (q59 (pick5 z o))∧Below w.heap.size w w':=by
 obtain⟨hp,D⟩:=q5d hz ho;generalize hE:pick5 z o=E at hp D⊢;clear hE;have x:=fun k (hk:k<5) w=>q3Q (rz k) (ro k) (rp k) (rd k) (rc k) (rv k) z o w (q6Z k hk).1 (q6Z k hk).2 hz ho
 generalize fl z=z0 at x⊢;generalize fl o=o0 at x⊢;go_enter func239,ntmps239
 go_wp2
 have Bx:=Blk.new w 324 #[F G 0,F G 0,F G 0,F G 0,.bool false,.bool false,F G 0];have hB:Below w.heap.size w (w.alloc (.cells #[F G 0,F G 0,F G 0,F G 0,.bool false,.bool false,F G 0] 324)):=by go_grown
 generalize w.alloc (.cells #[F G 0,F G 0,F G 0,F G 0,.bool false,.bool false,F G 0] 324)=W at*;go_loopw[3] (fun i wr=>∃k:Nat,k<5∧k≤E∧i=F G k∧Below W.heap.size W wr) (fun i _=>5-(intOf i).toNat)
 case atStart=>exact⟨0,by omega,s _,rfl,Below.refl _ _⟩
 case round=>
  obtain⟨k,hk,J,rfl,hb⟩:=hrel;replace hB:=hB.trans (hb.mono hB.size);replace Bx:=Bx.below hb;obtain⟨c0,c1,c2,c3,c4,c5,c6⟩:=q6a (hG.below hB) k hk;obtain⟨hy,hn⟩:=D k hk J;have HY:Hid (q3R k z o=true→k=E):=hy;have HN:Hid (q3R k z o=false→k+1≤E):=hn;have hf:=x k hk wr;rw[show(decide (rz k≤z) && decide (ro k≤o))=q3R k z o from rfl]at hf;clear x D hy hn;unfold q5X at hf;have HV:Hid (q59 k=.agg #[F G (rz k),F G (ro k),F G (rp k),F G 0,.bool (rd k),.bool (rc k),F G (rv k)]):=rfl;generalize rz k=a0 at*;generalize ro k=a1 at*;generalize rp k=a2 at*;generalize rd k=a4 at*;generalize rc k=a5 at*;generalize rv k=a6 at*
  go_wp2_with fail
  refine hf.mono ?_;rintro e w2 ⟨rfl,c⟩;have d:=World.block_lt_of_cell? wr ⟨1,k*7,none⟩ c0;dsimp only at d;replace c0:=(c.cell (p:=⟨1,k*7,none⟩) d).trans c0;replace c1:=(c.cell (p:=⟨1,k*7+1,none⟩) d).trans c1;replace c2:=(c.cell (p:=⟨1,k*7+2,none⟩) d).trans c2;replace c3:=(c.cell (p:=⟨1,k*7+3,none⟩) d).trans c3;replace c4:=(c.cell (p:=⟨1,k*7+4,none⟩) d).trans c4;replace c5:=(c.cell (p:=⟨1,k*7+5,none⟩) d).trans c5;replace c6:=(c.cell (p:=⟨1,k*7+6,none⟩) d).trans c6;replace Bx:=Bx.below c;replace hB:=hB.trans (c.mono hB.size);replace hb:=hb.trans (c.mono hb.size);clear hf c d;by_cases A:q3R k z o=true
  ·have y:=HY.out A;clear HY HN;rw[A];obtain⟨p0,p1,p2,p3,p4,p5,p6⟩:=Bx.cel7;obtain⟨f0,f1,f2,f3,f4,f5,f6⟩:=Bx.frz7;have hV:Hid (q59 E=.agg #[F G a0,F G a1,F G a2,F G 0,.bool a4,.bool a5,F G a6]):=by rw[←y];exact HV.out
   have I:=((((((hB.setCell (p:=⟨w.heap.size,0,none⟩) (H _) (F G a0)).setCell (p:=⟨w.heap.size,1,none⟩) (H _) (F G a1)).setCell (p:=⟨w.heap.size,2,none⟩) (H _) (F G a2)).setCell (p:=⟨w.heap.size,3,none⟩) (H _) (F G 0)).setCell (p:=⟨w.heap.size,4,none⟩) (H _) (.bool a4)).setCell (p:=⟨w.heap.size,5,none⟩) (H _) (.bool a5)).setCell (p:=⟨w.heap.size,6,none⟩) (H _) (F G a6);have HB:Hid (Below w.heap.size w _):=I;clear Bx hB hb I y HV
   go_wp2
   exact bodyPost_ret (v:=.agg #[F G a0,F G a1,F G a2,F G 0,.bool a4,.bool a5,F G a6]) (by simp[results,results239,go_sem,p0,p1,p2,p3,p4,p5,p6]) rfl ⟨by rw[hV.out],HB.out⟩
  ·have C:q3R k z o=false:=by simpa using A
   have y:=HN.out C;clear HY HN A;rw[C];clear c0 c1 c2 c3 c4 c5 c6 Bx hB
   go_wp2
   go_roundw
   case rel=>exact⟨k+1,by omega,y,by go_num,hb⟩
   case measure=>simp[intOf];omega
def z2y(zs:List Int)(m:Int):Bool:=isQ m && (cnt m zs 3==0)
theorem q2h{m:Int}(h:isQ m=true):inB m 0 7=true:=by
 unfold isQ at h;rw[Bool.and_eq_true]at h;exact h.1
theorem z5k{zs:List Int}{m:Int}(h:z2y zs m=true):inB m 0 7=true:=by
 unfold z2y at h;rw[Bool.and_eq_true]at h;exact q2h h.1
theorem q6L(zs:List Int):vfault zs 2=vf zs 2:=by simp[vfault,inB]
theorem q6b(zs:List Int):vfault zs 1=vf zs 1:=by simp[vfault,inB]
theorem z5E(a:Option Addr)(cap:Nat)(zs:List Int)(m:Int)(w:World)(h:Row .i64 w a zs)(hl:zs.length=3):
  Calls Q 238 #[K a 3 cap,F G m] w fun e w'=>e=.returned (.bool (z2y zs m))∧w'=w:=by
 have hq:=z78 m w;have hvo:=z1W a cap zs 3 w h hl;unfold z2y;by_cases h1:isQ m=true
 ·obtain⟨q1,q2,q3⟩:=z9k (q2h h1) zs 3;rw[h1]at hq⊢;rw[←q3];clear q1 q2 q3 h1;generalize vot zs 3=u at*;go_enter func238,ntmps238
  go_wp2_with (first|(go_at_call 253;refine hq.mono ?_;rintro e w' ⟨rfl,rfl⟩)|(go_at_call 174;refine hvo.mono ?_;rintro e w' ⟨rfl,rfl⟩))
  go_ret;exact⟨by simp,rfl⟩
 ·have h1':isQ m=false:=by simpa using h1
  rw[h1']at hq⊢;clear h1 h1';go_enter func238,ntmps238
  go_wp2_with (go_at_call 253;refine hq.mono ?_;rintro e w' ⟨rfl,rfl⟩)
  go_ret;exact⟨by simp,rfl⟩
theorem z2G(a:Option Addr)(cap:Nat)(zs:List Int)(m:Int)(w:World)(h:Row .i64 w a zs)(hl:zs.length=3)(hm:inB m 0 7=true):
  Calls Q 237 #[K a 3 cap,F G m] w fun e w'=>e=.returned (.complex .f64 (fl (cnt m zs 0)) (fl (cnt m zs 1)))∧w'=w:=by
 obtain⟨q1,q2,_⟩:=z9k hm zs 0;obtain⟨r1,r2,_⟩:=z9k hm zs 1;have hn0:=z2e _ w q1;have hn1:=z2e _ w r1;rw[q2]at hn0;rw[r2]at hn1;have hv0:=z1W a cap zs 0 w h hl;have hv1:=z1W a cap zs 1 w h hl;clear q1 q2 r1 r2;generalize vot zs 0=u0 at*;generalize vot zs 1=u1 at*;generalize cnt m zs 0=c0 at*;generalize cnt m zs 1=c1 at*;go_enter func237,ntmps237
 go_wp2_with fail
 refine hv0.mono ?_;rintro e w' ⟨rfl,hw⟩;replace hw:=hw.symm;subst hw
 go_wp2_with fail
 refine hn0.mono ?_;rintro e w' ⟨rfl,hw⟩;replace hw:=hw.symm;subst hw
 go_wp2_with fail
 refine hv1.mono ?_;rintro e w' ⟨rfl,hw⟩;replace hw:=hw.symm;subst hw
 go_wp2_with fail
 refine hn1.mono ?_;rintro e w' ⟨rfl,hw⟩;replace hw:=hw.symm;subst hw
 go_wp2
 go_ret;exact⟨rfl,rfl⟩
def pr2(z o:Int):Int:=if 2≤z then 0 else if 2≤o then 1 else 2
def pfC(zs:List Int)(m:Int):Int:=if vf zs 1=0 then(if z2y zs m then 0 else 10)else vf zs 1
def pfV(zs:List Int)(m:Int):Int:=if pfC zs m=0 then pr2 (cnt m zs 0) (cnt m zs 1)else 0
theorem q6c:∀z∈[(0:Int),1,2,3],∀o∈[(0:Int),1,2,3],rp (pick5 z o)=pr2 z o:=by decide+kernel
theorem q5e(a0 a1 a2 a3:Int)(a4 a5:Bool)(a6:Int)(w:World):(Instr.field 324 (.agg #[F G a0,F G a1,F G a2,F G a3,.bool a4,.bool a5,F G a6]) 2).run Q w=.ok (F G a2) w:=by kernel_rfl
theorem q5f(a0 a1 a2 a3:Int)(a4 a5:Bool)(a6:Int)(w:World):(Instr.field 324 (.agg #[F G a0,F G a1,F G a2,F G a3,.bool a4,.bool a5,F G a6]) 3).run Q w=.ok (.agg #[F G a3,.bool a4,.bool a5,F G a6]) w:=by kernel_rfl
theorem z8o(a:Option Addr)(cap:Nat)(zs:List Int)(m:Int)(w:World)(hG:Rul w)(h:Row .i64 w a zs)(hm:zs.length≤9223372036854775807):
  Calls Q 206 #[K a zs.length cap,F G m] w fun e w'=>e=.returned (.agg #[F G (pfC zs m),F G (pfV zs m)])∧Below w.heap.size w w':=by
 have hB:Below w.heap.size w (w.alloc (.cells #[F G 0,F G 0] 184)):=by go_grown
 have hv:=fun w h=>z0F a cap zs 1 w h hm
 rw[q6b]at hv;by_cases h0:vf zs 1=0
 ·have hl:=z07 h0;rw[h0]at hv;rw[hl]at hv⊢;have hh:=z5E a cap zs m _ (h.below hB) hl;by_cases h1:z2y zs m=true
  ·have e1:pfC zs m=0:=by simp[pfC,h0,h1]
   have e2:pfV zs m=pr2 (cnt m zs 0) (cnt m zs 1):=by simp[pfV,e1]
   have e3:=q6c _ (q3H (z2v m zs 0)) _ (q3H (z2v m zs 1));have hc:=z2G a cap zs m _ (h.below hB) hl (z5k h1);have hr:=z5D _ _ _ (hG.below hB) (z2v m zs 0) (z2v m zs 1);rw[e1,e2,←e3];rw[h1]at hh;clear e1 e2 e3 h0 hl h1;unfold q59 q5X at hr;generalize pick5 (cnt m zs 0) (cnt m zs 1)=E at*;generalize fl (cnt m zs 0)=z0 at*;generalize fl (cnt m zs 1)=o0 at*;generalize rz E=a0 at*;generalize ro E=a1 at*;generalize rp E=a2 at*;generalize rd E=a4 at*;generalize rc E=a5 at*;generalize rv E=a6 at*;have Bx:=Blk.new w 184 #[F G 0,F G 0];have hv1:=hv _ (h.below hB);clear hv;go_enter func206,ntmps206
   go_wp2_with fail
   generalize w.alloc (.cells #[F G 0,F G 0] 184)=W at*;refine hv1.mono ?_;rintro e w' ⟨rfl,hw⟩;replace hw:=hw.symm;subst hw
   go_wp2_with fail
   refine hh.mono ?_;rintro e w' ⟨rfl,hw⟩;replace hw:=hw.symm;subst hw
   go_wp2_with fail
   refine hc.mono ?_;rintro e w' ⟨rfl,hw⟩;replace hw:=hw.symm;subst hw
   go_wp2_with fail
   refine hr.mono ?_;rintro e w' ⟨rfl,hb⟩;replace Bx:=Bx.below hb;replace hB:=hB.trans (hb.mono hB.size);obtain⟨p0,p1⟩:=Bx.cel2;obtain⟨f0,f1⟩:=Bx.frz2;have hfl:=q5e a0 a1 a2 0 a4 a5 a6 w';clear hb hv1 hh hc hr Bx
   go_wp2
   exact bodyPost_ret (v:=.agg #[F G 0,F G a2]) (by simp[results,results206,go_sem,p0,p1]) rfl ⟨rfl,(hB.setCell (p:=⟨w.heap.size,0,none⟩) (H _) _).setCell (p:=⟨w.heap.size,1,none⟩) (H _) _⟩
  ·have h1':z2y zs m=false:=by simpa using h1
   have e1:pfC zs m=10:=by simp[pfC,h0,h1']
   have e2:pfV zs m=0:=by simp[pfV,e1]
   rw[e1,e2];rw[h1']at hh;clear e1 e2 h0 hl h1;go_enter func206,ntmps206
   go_wp2_with (first|(go_at_call 134;refine(hv _ (h.below (by go_grown))).mono ?_;rintro e w' ⟨rfl,rfl⟩)|(go_at_call 238;refine hh.mono ?_;rintro e w' ⟨rfl,rfl⟩))
   exact bodyPost_ret (v:=.agg #[F G 10,F G 0]) (by simp[results,results206,go_sem]) rfl ⟨rfl,by go_grown⟩
 ·have e1:pfC zs m=vf zs 1:=by simp[pfC,h0]
  have e2:pfV zs m=0:=by simp[pfV,e1,h0]
  rw[e1,e2];clear e1 e2;have h0':(vf zs 1 !=0)=true:=by simpa using h0
  clear h0;generalize vf zs 1=c at*;go_enter func206,ntmps206
  go_wp2_with (go_at_call 134;refine(hv _ (h.below (by go_grown))).mono ?_;rintro e w' ⟨rfl,rfl⟩)
  exact bodyPost_ret (v:=.agg #[F G c,F G 0]) (by simp[results,results206,go_sem]) rfl ⟨rfl,by go_grown⟩
theorem z5F(a:Option Addr)(cap:Nat)(zs:List Int)(m:Int)(w:World)(h:Row .i64 w a zs)(hl:zs.length=3):
  Calls Q 216 #[K a 3 cap,F G m] w fun e w'=>e=.returned (.bool (z2y zs m))∧Below w.heap.size w w':=by
 have hq:=z79 m w;unfold z2y;by_cases h1:isQ m=true
 ·have hvo:=fun w h=>z0J a cap zs m 3 w h hl (q2h h1)
  rw[h1]at hq⊢;clear h1;generalize cnt m zs 3=u at*;go_enter func216,ntmps216
  go_wp2_with fail
  refine hq.mono ?_;rintro e w1 ⟨rfl,b1⟩;have hv1:=hvo w1 (h.below b1);clear hvo hq
  go_wp2_with fail
  refine hv1.mono ?_;rintro e w2 ⟨rfl,b2⟩;replace b2:=b1.trans (b2.mono b1.size);clear hv1
  go_wp2
  go_ret;exact⟨by simp,b2⟩
 ·have h1':isQ m=false:=by simpa using h1
  rw[h1']at hq⊢;clear h1 h1';go_enter func216,ntmps216
  go_wp2_with (go_at_call 241;refine hq.mono ?_;rintro e w' ⟨rfl,b1⟩)
  go_ret;exact⟨by simp,b1⟩
theorem z6q(a:Option Addr)(cap:Nat)(zs:List Int)(m:Int)(w:World)(h:Row .i64 w a zs)(hl:zs.length=3)(hm:inB m 0 7=true):
  Calls Q 217 #[K a 3 cap,F G m] w fun e w'=>e=.returned (F G (pr2 (cnt m zs 0) (cnt m zs 1)))∧Below w.heap.size w w':=by
 have hc0:=fun w h=>z0J a cap zs m 0 w h hl hm
 have hc1:=fun w h=>z0J a cap zs m 1 w h hl hm
 generalize cnt m zs 0=z at*;generalize cnt m zs 1=o at*;generalize hE:pr2 z o=E;unfold pr2 at hE;have h0:=hc0 w h;clear hc0;by_cases hz:2≤z
 ·rw[if_pos hz]at hE;have HE:Hid (E=0):=hE.symm;clear hc1 hE;go_enter func217,ntmps217
  go_wp2
  refine wp_loop_rounds 1 ?_;rw[rounds_succ]
  go_wp2_with fail
  refine h0.mono ?_;rintro e w1 ⟨rfl,b1⟩;clear h0
  go_wp2
  go_ret;exact⟨by rw[HE.out];rfl,b1⟩
 ·rw[if_neg hz]at hE;have HE:Hid (E=if 2≤o then 1 else 2):=hE.symm;clear hE;go_enter func217,ntmps217
  go_wp2
  refine wp_loop_rounds 3 ?_;rw[rounds_succ]
  go_wp2_with fail
  refine h0.mono ?_;rintro e w1 ⟨rfl,b1⟩;have h1:=hc1 w1 (h.below b1);clear h0 hc1;by_cases ho:2≤o
  ·have HE2:Hid (E=1):=HE.out.trans (if_pos ho);clear HE
   go_wp2_with fail
   rw[rounds_succ]
   go_wp2_with fail
   refine h1.mono ?_;rintro e w2 ⟨rfl,b2⟩;replace b2:=b1.trans (b2.mono b1.size);clear h1
   go_wp2
   go_ret;exact⟨by rw[HE2.out];rfl,b2⟩
  ·have HE2:Hid (E=2):=HE.out.trans (if_neg ho);clear HE
   go_wp2_with fail
   rw[rounds_succ]
   go_wp2_with fail
   refine h1.mono ?_;rintro e w2 ⟨rfl,b2⟩;replace b2:=b1.trans (b2.mono b1.size);clear h1
   go_wp2
   rw[rounds_succ]
   go_wp2
   go_ret;exact⟨by rw[HE2.out];rfl,b2⟩
theorem z8p(a:Option Addr)(cap:Nat)(zs:List Int)(m:Int)(w:World)(h:Row .i64 w a zs)(hm:zs.length≤9223372036854775807):
  Calls Q 191 #[K a zs.length cap,F G m] w fun e w'=>e=.returned (.agg #[F G (pfC zs m),F G (pfV zs m)])∧Below w.heap.size w w':=by
 obtain⟨C,hC⟩:∃C,pfC zs m=C:=⟨_,rfl⟩
 obtain⟨V,hV⟩:∃V,pfV zs m=V:=⟨_,rfl⟩
 have HC:Hid (pfC zs m=C∧pfV zs m=V):=And.intro hC hV;rw[hC,hV];clear hC hV;have hB:Below w.heap.size w (w.alloc (.cells #[F G 0,F G 0] 184)):=by go_grown
 have Bx:=Blk.new w 184 #[F G 0,F G 0];have hv:=z08 a cap zs 1 _ (h.below hB) hm;go_enter func191,ntmps191
 go_wp2_with fail
 generalize w.alloc (.cells #[F G 0,F G 0] 184)=W at*;refine hv.mono ?_;rintro e w1 ⟨rfl,hb⟩;replace Bx:=Bx.below hb;replace hB:=hB.trans (hb.mono hB.size);clear hv hb;by_cases h0:vf zs 1=0
 ·have hl:=z07 h0;have hh:=z5F a cap zs m w1 (h.below hB) hl;rw[h0,hl];by_cases h1:z2y zs m=true
  ·have HE:Hid (C=0∧V=pr2 (cnt m zs 0) (cnt m zs 1)):=by
    obtain⟨e1,e2⟩:=HC.out;have e3:pfC zs m=0:=by simp[pfC,h0,h1]
    exact⟨e1.symm.trans e3,e2.symm.trans (by simp[pfV,e3])⟩
   have hp:=fun w h=>z6q a cap zs m w h hl (z5k h1)
   rw[h1]at hh;clear h0 hl h1 HC;generalize pr2 (cnt m zs 0) (cnt m zs 1)=P at*
   go_wp2_with fail
   refine hh.mono ?_;rintro e w2 ⟨rfl,hb⟩;replace Bx:=Bx.below hb;replace hB:=hB.trans (hb.mono hB.size);have hp2:=hp w2 (h.below hB);clear hh hb hp
   go_wp2_with fail
   refine hp2.mono ?_;rintro e w3 ⟨rfl,hb⟩;replace Bx:=Bx.below hb;replace hB:=hB.trans (hb.mono hB.size);obtain⟨p0,p1⟩:=Bx.cel2;obtain⟨f0,f1⟩:=Bx.frz2;clear hp2 hb Bx
   go_wp2
   exact bodyPost_ret (v:=.agg #[F G 0,F G P]) (by simp[results,results191,go_sem,p0,p1]) rfl ⟨by rw[HE.out.1,HE.out.2],(hB.setCell (p:=⟨w.heap.size,0,none⟩) (H _) _).setCell (p:=⟨w.heap.size,1,none⟩) (H _) _⟩
  ·have h1':z2y zs m=false:=by simpa using h1
   have HE:Hid (C=10∧V=0):=by
    obtain⟨e1,e2⟩:=HC.out;have e3:pfC zs m=10:=by simp[pfC,h0,h1']
    exact⟨e1.symm.trans e3,e2.symm.trans (by simp[pfV,e3])⟩
   rw[h1']at hh;clear h0 hl h1 HC
   go_wp2_with fail
   refine hh.mono ?_;rintro e w2 ⟨rfl,hb⟩;replace Bx:=Bx.below hb;replace hB:=hB.trans (hb.mono hB.size);obtain⟨p0,p1⟩:=Bx.cel2;obtain⟨f0,f1⟩:=Bx.frz2;clear hh hb Bx
   go_wp2
   exact bodyPost_ret (v:=.agg #[F G 10,F G 0]) (by simp[results,results191,go_sem,p0,p1]) rfl ⟨by rw[HE.out.1,HE.out.2],(hB.setCell (p:=⟨w.heap.size,0,none⟩) (H _) _).setCell (p:=⟨w.heap.size,1,none⟩) (H _) _⟩
 ·have HE:Hid (C=vf zs 1∧V=0):=by
   obtain⟨e1,e2⟩:=HC.out;have e3:pfC zs m=vf zs 1:=by simp[pfC,h0]
   exact⟨e1.symm.trans e3,e2.symm.trans (by simp[pfV,e3,h0])⟩
  have h0':(vf zs 1 !=0)=true:=by simpa using h0
  clear h0 HC;generalize vf zs 1=c at*;obtain⟨p0,p1⟩:=Bx.cel2;obtain⟨f0,f1⟩:=Bx.frz2;clear Bx
  go_wp2
  exact bodyPost_ret (v:=.agg #[F G c,F G 0]) (by simp[results,results191,go_sem,p0,p1]) rfl ⟨by rw[HE.out.1,HE.out.2],(hB.setCell (p:=⟨w.heap.size,0,none⟩) (H _) _).setCell (p:=⟨w.heap.size,1,none⟩) (H _) _⟩
def q2i(zs:List Int):Bool:=decide (0<cnt 7 zs 0) && decide (0<cnt 7 zs 1)
def chC(zs:List Int)(m c:Int):Int:=if vf zs 2=0 then(if inB c 0 1 then(if q2i zs then 1 else if z2y zs m then 0 else 10)else 3)else vf zs 2
def chD(z o:Int):Bool:=if 0<z then decide (2≤z)else decide (2≤o)
def chK(z o:Int):Bool:=!decide (0<z) && !decide (0<o)
def chV(z o c:Int):Int:=if 0<z then 0 else if 0<o then 1 else c
def cfD(zs:List Int)(m c:Int):Bool:=if chC zs m c=0 then chD (cnt m zs 0) (cnt m zs 1)else false
def cfK(zs:List Int)(m c:Int):Bool:=if chC zs m c=0 then chK (cnt m zs 0) (cnt m zs 1)else false
def cfV(zs:List Int)(m c:Int):Int:=if chC zs m c=0 then chV (cnt m zs 0) (cnt m zs 1) c else 0
theorem q5g(a b c p q r:Bool):q1W (a && p) (b && q) (c && r)≤q1W p q r:=by
 cases a<;>cases b<;>cases c<;>cases p<;>cases q<;>cases r<;>decide
theorem bit7:bitB 7 0=true∧bitB 7 1=true∧bitB 7 2=true:=by decide+kernel
theorem q4H(m:Int)(zs:List Int)(v:Int):cnt m zs v≤cnt 7 zs v:=by
 unfold cnt;rw[bit7.1,bit7.2.1,bit7.2.2,Bool.true_and,Bool.true_and,Bool.true_and];exact q5g _ _ _ _ _ _
theorem ch4:∀z∈[(0:Int),1,2,3],∀o∈[(0:Int),1,2,3],(decide (0<z) && decide (0<o))=false→rd (pick5 z o)=chD z o∧rc (pick5 z o)=chK z o∧(rc (pick5 z o)=true→¬0<z∧¬0<o)∧(rc (pick5 z o)=false→(0<z∧rv (pick5 z o)=0)∨(¬0<z∧0<o∧rv (pick5 z o)=1)):=by decide+kernel
theorem q6M{zs:List Int}(m:Int)(h:q2i zs=false):(decide (0<cnt m zs 0) && decide (0<cnt m zs 1))=false:=by
 have h0:=q4H m zs 0;have h1:=q4H m zs 1;unfold q2i at h;rw[Bool.and_eq_false_iff,decide_eq_false_iff_not,decide_eq_false_iff_not]at h⊢;omega
theorem z6r(a:Option Addr)(cap:Nat)(zs:List Int)(m c:Int)(w:World)(hG:Rul w)(h:Row .i64 w a zs)(hm:zs.length≤9223372036854775807):
  Calls Q 205 #[K a zs.length cap,F G m,F G c] w fun e w'=>e=.returned (.agg #[F G (chC zs m c),.bool (cfD zs m c),.bool (cfK zs m c),F G (cfV zs m c)])∧Below w.heap.size w w':=by
 have hB:Below w.heap.size w (w.alloc (.cells #[F G 0,.bool false,.bool false,F G 0] 60)):=by go_grown
 have hv:=fun w h=>z0F a cap zs 2 w h hm
 rw[q6L]at hv;by_cases h0:vf zs 2=0
 ·have hl:=z07 h0;rw[h0]at hv;rw[hl]at hv⊢;by_cases A:inB c 0 1=true
  ·have J:=fun w h=>z2G a cap zs 7 w h hl (by decide)
   have g0:=q4G (z2v 7 zs 0);have g1:=q4G (z2v 7 zs 1);by_cases C:q2i zs=true
   ·have e1:chC zs m c=1:=by simp[chC,h0,A,C]
    have e2:cfD zs m c=false:=by simp[cfD,e1]
    have e3:cfK zs m c=false:=by simp[cfK,e1]
    have e4:cfV zs m c=0:=by simp[cfV,e1]
    rw[e1,e2,e3,e4];unfold q2i at C;rw[Bool.and_eq_true]at C;rw[C.1]at g0;rw[C.2]at g1;generalize fl (cnt 7 zs 0)=z7 at*;generalize fl (cnt 7 zs 1)=o7 at*;clear e1 e2 e3 e4 h0 hl C;go_enter func205,ntmps205
    go_wp2_with (first|(go_at_call 134;refine(hv _ (h.below (by go_grown))).mono ?_;rintro e w' ⟨rfl,rfl⟩)|(go_at_call 21;refine(z0T _ _ _ _).mono ?_;rintro e w' ⟨rfl,rfl⟩)|(go_at_call 237;refine(J _ (h.below (by go_grown))).mono ?_;rintro e w' ⟨rfl,rfl⟩))
    exact bodyPost_ret (v:=.agg #[F G 1,.bool false,.bool false,F G 0]) (by simp[results,results205,go_sem]) rfl ⟨rfl,by go_grown⟩
   ·have d:q2i zs=false:=by simpa using C
    clear C;have D:=d;unfold q2i at D;have hh:=fun w h=>z5E a cap zs m w h hl
    by_cases h1:z2y zs m=true
    ·obtain⟨q1,q2,q3,q4⟩:=ch4 _ (q3H (z2v m zs 0)) _ (q3H (z2v m zs 1)) (q6M m d);have e1:chC zs m c=0:=by simp[chC,h0,A,d,h1]
     have e2:cfD zs m c=rd (pick5 (cnt m zs 0) (cnt m zs 1)):=by simp[cfD,e1,q1]
     have e3:cfK zs m c=rc (pick5 (cnt m zs 0) (cnt m zs 1)):=by simp[cfK,e1,q2]
     have e4:cfV zs m c=if rc (pick5 (cnt m zs 0) (cnt m zs 1))=true then c else rv (pick5 (cnt m zs 0) (cnt m zs 1)):=by
      simp only[cfV,e1,if_true,chV];by_cases hk:rc (pick5 (cnt m zs 0) (cnt m zs 1))=true
      ·have:=q3 hk;rw[if_pos hk,if_neg this.1,if_neg this.2]
      ·rw[if_neg hk];rcases q4 (by simpa using hk)with⟨x,y⟩|⟨x,y,z⟩
       ·rw[if_pos x,y]
       ·rw[if_neg x,if_pos y,z]
     rw[e1,e2,e3,e4];rw[h1]at hh;have hc:=fun w h=>z2G a cap zs m w h hl (z5k h1)
     have hr:=fun w h=>z5D _ _ w h (z2v m zs 0) (z2v m zs 1)
     clear q1 q2 q3 q4 e1 e2 e3 e4 h0 hl h1 d;unfold q59 q5X at hr;generalize pick5 (cnt m zs 0) (cnt m zs 1)=E at*;generalize fl (cnt m zs 0)=z0 at*;generalize fl (cnt m zs 1)=o0 at*;generalize rz E=a0 at*;generalize ro E=a1 at*;generalize rp E=a2 at*;generalize rd E=a4 at*;generalize rc E=a5 at*;generalize rv E=a6 at*;have Bx:=Blk.new w 60 #[F G 0,.bool false,.bool false,F G 0];have V:=hr _ (hG.below hB);have T:=hc _ (h.below hB);have U:=hh _ (h.below hB);have M:=J _ (h.below hB);have X:=hv _ (h.below hB);clear hr hc hh J hv;have I:decide (0<cnt 7 zs 0)=false∨decide (0<cnt 7 zs 0)=true∧decide (0<cnt 7 zs 1)=false:=by
      revert D
      cases decide (0<cnt 7 zs 0)<;>cases decide (0<cnt 7 zs 1)<;>simp
     clear D;generalize fl (cnt 7 zs 0)=z7 at*;generalize fl (cnt 7 zs 1)=o7 at*;generalize decide (0<cnt 7 zs 0)=t0 at*;generalize decide (0<cnt 7 zs 1)=t1 at*;have hg:Hid ((FloatKind.f64.format.order z7 0==some .gt)=t0∧(FloatKind.f64.format.order o7 0==some .gt)=t1):=⟨g0,g1⟩
     clear g0 g1;go_enter func205,ntmps205
     go_wp2_with fail
     generalize w.alloc (.cells #[F G 0,.bool false,.bool false,F G 0] 60)=W at*;refine X.mono ?_;rintro e w' ⟨rfl,hw⟩;replace hw:=hw.symm;subst hw
     go_wp2_with fail
     refine(z0T _ _ _ _).mono ?_;rintro e w' ⟨rfl,hw⟩;replace hw:=hw.symm;subst hw;rw[A]
     go_wp2_with fail
     refine M.mono ?_;rintro e w' ⟨rfl,hw⟩;replace hw:=hw.symm;subst hw;clear X M;obtain⟨g0,g1⟩:=hg.out;clear hg;rcases I with rfl|⟨rfl,rfl⟩
     all_goals
      go_wp2_with fail
      refine U.mono ?_;rintro e w' ⟨rfl,hw⟩;replace hw:=hw.symm;subst hw
      go_wp2_with fail
      refine T.mono ?_;rintro e w' ⟨rfl,hw⟩;replace hw:=hw.symm;subst hw
      go_wp2_with fail
      refine V.mono ?_;rintro e w3 ⟨rfl,hb⟩;replace Bx:=Bx.below hb;replace hB:=hB.trans (hb.mono hB.size);have Z:=q5f a0 a1 a2 0 a4 a5 a6 w3;obtain⟨p0,p1,p2,p3⟩:=Bx.cel4;obtain⟨f0,f1,f2,f3⟩:=Bx.frz4;have L:=Bx.lt;clear U T V hb Bx
      cases a5
      ·go_wp2
       exact bodyPost_ret (v:=.agg #[F G 0,.bool a4,.bool false,F G a6]) (by simp[results,results205,go_sem,p0,p1,p2,p3,L,Nat.ne_of_lt L]) rfl ⟨rfl,by repeat first|exact hB|refine Below.setCell ?_ (by first|exact H _|(have:=hB.size;simp;omega)) _|refine Below.alloc ?_ (by have:=hB.size;simp;omega) _⟩
      ·go_wp2
       exact bodyPost_ret (v:=.agg #[F G 0,.bool a4,.bool true,F G c]) (by simp[results,results205,go_sem,p0,p1,p2,p3,L,Nat.ne_of_lt L]) rfl ⟨rfl,by repeat first|exact hB|refine Below.setCell ?_ (by first|exact H _|(have:=hB.size;simp;omega)) _|refine Below.alloc ?_ (by have:=hB.size;simp;omega) _⟩
    ·have O:z2y zs m=false:=by simpa using h1
     have e1:chC zs m c=10:=by simp[chC,h0,A,d,O]
     have e2:cfD zs m c=false:=by simp[cfD,e1]
     have e3:cfK zs m c=false:=by simp[cfK,e1]
     have e4:cfV zs m c=0:=by simp[cfV,e1]
     rw[e1,e2,e3,e4];rw[O]at hh;have I:decide (0<cnt 7 zs 0)=false∨decide (0<cnt 7 zs 0)=true∧decide (0<cnt 7 zs 1)=false:=by
      revert D
      cases decide (0<cnt 7 zs 0)<;>cases decide (0<cnt 7 zs 1)<;>simp
     clear e1 e2 e3 e4 h0 hl h1 D d hB;generalize fl (cnt 7 zs 0)=z7 at*;generalize fl (cnt 7 zs 1)=o7 at*;generalize decide (0<cnt 7 zs 0)=t0 at*;generalize decide (0<cnt 7 zs 1)=t1 at*;rcases I with rfl|⟨rfl,rfl⟩
     all_goals
      go_enter func205,ntmps205
      go_wp2_with (first|(go_at_call 134;refine(hv _ (h.below (by go_grown))).mono ?_;rintro e w' ⟨rfl,rfl⟩)|(go_at_call 21;refine(z0T _ _ _ _).mono ?_;rintro e w' ⟨rfl,rfl⟩)|(go_at_call 237;refine(J _ (h.below (by go_grown))).mono ?_;rintro e w' ⟨rfl,rfl⟩)|(go_at_call 238;refine(hh _ (h.below (by go_grown))).mono ?_;rintro e w' ⟨rfl,rfl⟩))
      exact bodyPost_ret (v:=.agg #[F G 10,.bool false,.bool false,F G 0]) (by simp[results,results205,go_sem]) rfl ⟨rfl,by go_grown⟩
  ·have N:inB c 0 1=false:=by simpa using A
   have e1:chC zs m c=3:=by simp[chC,h0,N]
   have e2:cfD zs m c=false:=by simp[cfD,e1]
   have e3:cfK zs m c=false:=by simp[cfK,e1]
   have e4:cfV zs m c=0:=by simp[cfV,e1]
   rw[e1,e2,e3,e4];clear e1 e2 e3 e4 h0 hl A hB;go_enter func205,ntmps205
   go_wp2_with (first|(go_at_call 134;refine(hv _ (h.below (by go_grown))).mono ?_;rintro e w' ⟨rfl,rfl⟩)|(go_at_call 21;refine(z0T _ _ _ _).mono ?_;rintro e w' ⟨rfl,rfl⟩))
   exact bodyPost_ret (v:=.agg #[F G 3,.bool false,.bool false,F G 0]) (by simp[results,results205,go_sem]) rfl ⟨rfl,by go_grown⟩
 ·have e1:chC zs m c=vf zs 2:=by simp[chC,h0]
  have e2:cfD zs m c=false:=by simp[cfD,e1,h0]
  have e3:cfK zs m c=false:=by simp[cfK,e1,h0]
  have e4:cfV zs m c=0:=by simp[cfV,e1,h0]
  rw[e1,e2,e3,e4];have Y:(vf zs 2 !=0)=true:=by simpa using h0
  clear e1 e2 e3 e4 h0 hB;generalize vf zs 2=x at*;go_enter func205,ntmps205
  go_wp2_with (go_at_call 134;refine(hv _ (h.below (by go_grown))).mono ?_;rintro e w' ⟨rfl,rfl⟩)
  exact bodyPost_ret (v:=.agg #[F G x,.bool false,.bool false,F G 0]) (by simp[results,results205,go_sem]) rfl ⟨rfl,by go_grown⟩
end Go.Proofs.YtdppipeclnldeaaGreatDoor

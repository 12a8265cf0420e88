import Derived.Test.YtdppipeclnldeaaGreatDoorOBAB
set_option linter.unusedVariables false
set_option linter.unusedSimpArgs false
set_option maxRecDepth 100000
set_option maxHeartbeats 4000000
namespace Go.Proofs.YtdppipeclnldeaaGreatDoor
open Go.RowKit Go.BigFrame
open TxnQ renaming e->H
open RoundQ renaming e->t
open Nat renaming le_refl->f,zero_le->Va
open Blk renaming new->Vb
open List renaming take_succ_eq_append_getElem->Vc
open IntKind renaming i64->G
open Value renaming int->F,slice->K
open Go.Proofs.Tryz renaming prog->Q
open Go.Proofs.Tryz
theorem z5h(zs:List Int):intK.row zs=zs.map (Value.int .i64):=by
 induction zs with
 |nil=>rfl
 |cons z r ih=>
  simp only[Kind.row,List.flatMap_cons,List.map_cons]at ih⊢;rw[ih];rfl
theorem z9p{w:World}{a:Option Addr}{zs:List Int}(h:Lies w a (zs.map (Value.int .i64))):Row .i64 w a zs:=by
 intro i hi;rcases h with h|⟨b,off,ha,hlt,hc⟩
 ·have:=congrArg List.length h;rw[List.length_map,List.length_nil]at this;omega
 ·exact⟨b,off,ha,hlt,hc i _ (by simp[List.getD,hi])⟩
theorem z3C{w:World}{a:Option Addr}{zs:List Int}(h:Row .i64 w a zs):Lies w a (zs.map (Value.int .i64)):=by
 by_cases h0:zs=[]
 ·left;simp[h0]
 ·obtain⟨b,off,ha,hlt,_⟩:=h 0 (List.length_pos_iff.2 h0);right;refine⟨b,off,ha,hlt,fun i x hx=>?_⟩;have hi:i<zs.length:=by
   have:=(List.getElem?_eq_some_iff.1 hx).1;simpa using this
  obtain⟨b',off',ha',_,hc⟩:=h i hi;rw[ha]at ha';simp only[Option.some.injEq,Addr.mk.injEq,and_true]at ha';obtain⟨rfl,rfl⟩:=ha';rw[hc];simp[hi]at hx;rw[←hx];simp[List.getD,hi]
theorem z0P{w:World}{a:Option Addr}{n cap:Nat}{zs:List Int}(h:intK.At w (K a n cap) zs):n=zs.length∧Row .i64 w a zs:=by
 obtain⟨a',c,e,hl,_⟩:=h;simp only[Value.slice.injEq]at e;obtain⟨rfl,rfl,_⟩:=e;rw[z5h]at hl;exact⟨rfl,z9p hl⟩
theorem z0Z{w:World}{a:Option Addr}{n cap:Nat}{zs:List ActD}(h:actK.At w (K a n cap) zs):n=zs.length∧ActRow w a zs:=by
 obtain⟨a',c,e,hl,_⟩:=h;simp only[Value.slice.injEq]at e;obtain⟨rfl,rfl,_⟩:=e;exact⟨rfl,hl⟩
theorem q44{w:World}{a:Option Addr}{cap:Nat}{zs:List ActD}(h:ActRow w a zs):actK.At w (K a zs.length cap) zs:=⟨a,cap,rfl,h,fun _ _=>trivial⟩
theorem z3D(v:Value)(zs:List Int):intK.fp v zs=blk v:=by
 have:zs.flatMap intK.foot=[]:=by rw[List.flatMap_eq_nil_iff];intro _ _;rfl
 simp[Kind.fp,this]
theorem z1b(v:Value)(zs:List ActD):actK.fp v zs=blk v:=by
 have:zs.flatMap actK.foot=[]:=by rw[List.flatMap_eq_nil_iff];intro _ _;rfl
 simp[Kind.fp,this]
theorem z0x(v:Value):(blk v).Nodup:=by unfold blk;cases v.ownBlock<;>simp
theorem z0B{w:World}{base e s n:Nat}{v:Value}{xs:List Value}(h:w.ownsRow base e s v n xs):w.ownsRow 0 e s v n xs∧∀k∈blk v,base≤k:=⟨z0r h (Va _),fun k hk=>(h.lt k (by simpa[blk]using hk)).1⟩
def z3p(c:Int)(zs:List ActD):List ActD:=z1h c zs.length
theorem z8f(c:Int)(v:Value)(zs:List ActD):actK.fp v (z3p c zs)=actK.fp v zs:=by rw[z1b,z1b]
theorem q08(v:Value)(zs:List ActD)(c:Int)(w:World)(h:actK.Own w v zs)(hl:zs.length≤1048576)(h0:0≤c)(h1:c≤1099511627776):
  Calls Q 93 #[v,F G c] w fun e w'=>e=.returned (F G (c+((zs.length*3:Nat):Int)))∧actK.Own w' v (z3p c zs)∧Out (actK.fp v zs) w w':=by
 refine(z8b 0 v zs.length _ c w h.1 (by omega) h0 h1).mono ?_;rintro e w' ⟨rfl,ho,hg⟩;refine⟨rfl,⟨?_,fun _ _=>trivial⟩,?_⟩
 ·have e:(z3p c zs).length=zs.length:=by simp[z3p,z09]
  rw[e];exact ho
 ·rw[z1b];exact Out.of_grown hg
theorem q09(v:Value)(zs:List ActD)(c:Int)(w:World)(h:actK.At w v (z3p c zs))(hl:zs.length≤1048576)(h0:0≤c)(h1:c≤1099511627776):
  Calls Q 146 #[v,F G c] w fun e w'=>e=.returned (F G (c+((zs.length*3:Nat):Int)))∧Below w.heap.size w w':=by
 obtain⟨a,cap,rfl⟩:=h.shape;have e:(z3p c zs).length=zs.length:=by simp[z3p,z09]
 have hA:=(z0Z h).2;rw[e];refine(z69 a zs.length cap c w hA (by omega) h0 h1).mono ?_;rintro e w' ⟨rfl,hw⟩;exact⟨rfl,by subst hw;exact Below.refl _ _⟩
theorem z7a(v:Value)(zs:List Int)(w:World)(h:intK.At w v zs)(hl:zs.length≤1048576):
  Calls Q 73 #[v] w fun e w'=>∃v',e=.returned v'∧intK.Own w' v' zs∧(intK.fp v' zs).Nodup∧(∀k∈intK.fp v' zs,w.heap.size≤k)∧Below w.heap.size w w':=by
 obtain⟨a,cap,rfl⟩:=h.shape;refine(q4U a cap zs w (z0P h).2 hl).mono ?_;rintro e w' ⟨g,c,rfl,ho,hb⟩;obtain⟨o,hk⟩:=z0B ho;refine⟨_,rfl,⟨by rw[z5h];exact o,fun _ _=>trivial⟩,?_,?_,hb⟩
 ·rw[z3D];exact z0x _
 ·rw[z3D];exact hk
theorem z7b(v v':Value)(zs:List Int)(w:World)(h:intK.At w v zs)(h':intK.At w v' zs)(hl:zs.length≤1048576):
  Calls Q 91 #[v,v'] w fun e w'=>e=.returned (.bool true)∧Below w.heap.size w w':=by
 obtain⟨a,cap,rfl⟩:=h.shape;obtain⟨a',cap',rfl⟩:=h'.shape;refine(q3J a a' cap cap' zs w (z0P h).2 (z0P h').2 (by omega)).mono ?_;rintro e w' ⟨rfl,n,hw⟩;exact⟨rfl,by subst hw;exact below_drewN (Below.refl _ _) n⟩
def z1F(c:Int)(zs:List Int):List Int:=z3z .i64 c zs.length
theorem z1G(c:Int)(v:Value)(zs:List Int):intK.fp v (z1F c zs)=intK.fp v zs:=by rw[z3D,z3D]
theorem z4o(v:Value)(zs:List Int)(c:Int)(w:World)(h:intK.Own w v zs)(hl:zs.length≤1048576)(h0:0≤c)(h1:c≤1099511627776):
  Calls Q 51 #[v,F G c] w fun e w'=>e=.returned (F G (c+(zs.length:Int)))∧intK.Own w' v (z1F c zs)∧Out (intK.fp v zs) w w':=by
 refine(q1Y 0 v zs.length _ c w h.1 (by omega) h0 h1).mono ?_;rintro e w' ⟨rfl,ho,hg⟩;refine⟨rfl,⟨?_,fun _ _=>trivial⟩,?_⟩
 ·have e:(z1F c zs).length=zs.length:=by simp[z1F,z1V]
  rw[e,z5h];exact ho
 ·rw[z3D];exact Out.of_grown hg
theorem z4p(v:Value)(zs:List Int)(c:Int)(w:World)(h:intK.At w v (z1F c zs))(hl:zs.length≤1048576)(h0:0≤c)(h1:c≤1099511627776):
  Calls Q 97 #[v,F G c] w fun e w'=>e=.returned (F G (c+(zs.length:Int)))∧Below w.heap.size w w':=by
 obtain⟨a,cap,rfl⟩:=h.shape;have e:(z1F c zs).length=zs.length:=by simp[z1F,z1V]
 have hA:=(z0P h).2;rw[e];refine(q0X a zs.length cap c w hA (by omega) h0 h1).mono ?_;rintro e w' ⟨rfl,hw⟩;exact⟨rfl,by subst hw;exact Below.refl _ _⟩
theorem z01{P:Type}(nm:P→Nat)(ps:List P)(k:Nat)(h:k<ps.length):nm ps[k]≤nmL nm ps:=by
 have h1:=z0S nm ps k h;have h2:=z2w nm ps (k+1);omega
def TxnQ.n(p:TxnQ):Nat:=p.acts.length
def TxnQ.wf(p:TxnQ):Prop:=p.acts.length≤9223372036854775807
theorem q45(p:TxnQ)(c:Int)(w:World)(h:txnK.rd w p)(hn:TxnQ.wf p)(h0:0≤c)(h1:c≤1048576):
  Calls Q 100 #[.agg #[F G p.i,F G p.s,F G p.q,p.va],F G c] w fun e w'=>∃r:Int,e=.returned (F G r)∧(¬r<0→(TxnQ.n p:Int)+r=c)∧Below w.heap.size w w':=by
 obtain⟨i,s,q,va,acts⟩:=p;have h:actK.At w va acts:=h;obtain⟨a,cap,rfl⟩:=h.shape;refine(q15 i s q a acts.length cap c w hn h0 (by omega)).mono ?_;rintro e w' ⟨rfl,hb⟩;refine⟨_,rfl,?_,hb⟩;dsimp only[TxnQ.n];split<;>omega
theorem q46(p p':TxnQ)(w:World)(h:txnK.rd w p)(h':txnK.rd w p')(he:p.e=p'.e)(hl:TxnQ.n p≤1048576):
  Calls Q 142 #[.agg #[F G p.i,F G p.s,F G p.q,p.va],.agg #[F G p'.i,F G p'.s,F G p'.q,p'.va]] w fun e w'=>e=.returned (.bool true)∧Below w.heap.size w w':=by
 obtain⟨i,s,q,va,acts⟩:=p;obtain⟨i',s',q',va',acts'⟩:=p';simp only[H,TxnD.mk.injEq]at he;obtain⟨rfl,rfl,rfl,rfl⟩:=he;have h:actK.At w va acts:=h;have h':actK.At w va' acts:=h';obtain⟨a,cap,rfl⟩:=h.shape;obtain⟨a',cap',rfl⟩:=h'.shape;have hl:acts.length≤1048576:=hl;exact q05 i s q a a' cap cap' acts w (z0Z h).2 (z0Z h').2 (by omega)
theorem q47(p:TxnQ)(w:World)(h:txnK.rd w p)(hl:TxnQ.n p≤1048576):
  Calls Q 120 #[.agg #[F G p.i,F G p.s,F G p.q,p.va]] w fun e w'=>∃p':TxnQ,e=.returned (.agg #[F G p'.i,F G p'.s,F G p'.q,p'.va])∧p'.e=p.e∧txnK.own w' p'∧(txnK.foot p').Nodup∧(∀k∈txnK.foot p',w.heap.size≤k)∧Below w.heap.size w w':=by
 obtain⟨i,s,q,va,acts⟩:=p;have h:actK.At w va acts:=h;obtain⟨a,cap,rfl⟩:=h.shape;refine(q16 i s q a cap acts w (z0Z h).2 hl).mono ?_;rintro e w' ⟨g,c,rfl,ho,hb⟩;obtain⟨o,hk⟩:=z0B ho;refine⟨⟨i,s,q,_,acts⟩,rfl,rfl,⟨o,fun _ _=>trivial⟩,?_,?_,hb⟩
 ·show(actK.fp _ acts).Nodup;rw[z1b];exact z0x _
 ·intro k hk2;have hk2:k∈actK.fp _ acts:=hk2;rw[z1b]at hk2;exact hk k hk2
theorem z7c(v:Value)(ps:List TxnQ)(c:Int)(w:World)(h:txnK.At w v ps)(hn:ps.length≤9223372036854775807)(J:∀p∈ps,TxnQ.wf p)(h0:0≤c)(h1:c≤1048576):
  Calls Q 56 #[v,F G c] w fun e w'=>∃r:Int,e=.returned (F G r)∧(¬r<0→((ps.length+nmL TxnQ.n ps:Nat):Int)+r=c)∧Below w.heap.size w w':=by
 obtain⟨a,cap,rfl⟩:=h.shape;by_cases U:c-ps.length<0
 ·go_enter func56,ntmps56
  go_wp2
  go_ret;exact⟨_,rfl,fun h=>by omega,Below.refl _ _⟩
 ·go_enter func56,ntmps56
  go_wp2
  go_loopw[1,5] (fun l i wr=>∃ (k:Nat) (x:Int),k≤ps.length∧i=F G k∧l=F G x∧0≤x∧x≤1048576∧Hid (ps.length+nmL TxnQ.n (ps.take k)+x=c)∧Below w.heap.size w wr) (fun _ i _=>ps.length-(intOf i).toNat)
  case atStart=>exact⟨0,c-ps.length,Va _,rfl,by go_num,by omega,by omega,show _=_ by simp[nmL];omega,Below.refl _ _⟩
  case round=>
   obtain⟨k,x,hk,rfl,rfl,N,O,HS,hb⟩:=hrel;by_cases z:k<ps.length
   ·obtain⟨b,T,rfl,W,hc,M⟩:=(h.below hb).cell (by decide) k z;have d:∀j x,(txnK.cells ps[k])[j]?=some x→wr.cell? ⟨b,T+k*4+j,none⟩=some x:=hc;have c0:=d 0 (F G ps[k].i) rfl;have c1:=d 1 (F G ps[k].s) rfl;have c2:=d 2 (F G ps[k].q) rfl;have c3:=d 3 (ps[k].va) rfl;have hs:=z0S TxnQ.n ps k z;have HN:=J _ (List.getElem_mem z);have A:Hid (∀y:Int,(TxnQ.n ps[k]:Int)+y=x→ps.length+nmL TxnQ.n (ps.take (k+1))+y=c):=by
     intro y hy;have:=HS.out;omega
    clear HS hs hc d;generalize ps[k]=p at*;have E:=q45 p x wr M HN N O;generalize TxnQ.n p=m at*;rw[Nat.add_zero]at c0
    go_wp2_with fail
    refine E.mono ?_;rintro e w2 ⟨r,rfl,hr,C⟩;replace hb:=hb.trans (C.mono hb.size);clear C E c0 c1 c2 c3;by_cases V:r<0
    ·go_wp2
     go_ret;exact⟨_,rfl,fun h=>by omega,hb⟩
    ·have D:=hr (by omega);have HR:Hid (ps.length+nmL TxnQ.n (ps.take (k+1))+r=c):=A.out r D;have L:r≤1048576:=by omega
     clear A hr D
     go_wp2
     go_roundw
     case rel=>exact⟨k+1,r,by omega,by go_num,rfl,by omega,L,HR.out,hb⟩
     case measure=>simp[intOf];omega
   ·have I:k=ps.length:=by omega
    subst I;rw[List.take_length]at HS
    go_wp2
    go_ret;exact⟨_,rfl,fun _=>by have:=HS.out;omega,hb⟩
theorem z7d(v v':Value)(ps qs:List TxnQ)(w:World)(h:txnK.At w v ps)(h':txnK.At w v' qs)(he:ps.map H=qs.map H)(hl:(ps.length+nmL TxnQ.n ps)≤1048576):
  Calls Q 89 #[v,v'] w fun e w'=>e=.returned (.bool true)∧Below w.heap.size w w':=by
 obtain⟨a,cap,rfl⟩:=h.shape;obtain⟨a',T,rfl⟩:=h'.shape;have y:qs.length=ps.length:=by
  have:=congrArg List.length he;simpa using this.symm
 rw[y]at h'⊢;have HL:Hid (qs.length=ps.length):=y;clear y;go_enter func89,ntmps89
 go_wp2
 go_loopw[5] (fun i wr=>∃k:Nat,k≤ps.length∧i=F G k∧Below w.heap.size w wr) (fun i _=>ps.length-(intOf i).toNat)
 case atStart=>exact⟨0,Va _,rfl,Below.refl _ _⟩
 case round=>
  obtain⟨k,hk,rfl,hb⟩:=hrel;by_cases C:k<ps.length
  ·have z:k<qs.length:=by have:=HL.out;omega
   obtain⟨b,O,rfl,V,hc,J⟩:=(h.below hb).cell (by decide) k C;obtain⟨b',L,rfl,U,hd,A⟩:=(h'.below hb).cell (by decide) k z;have c:∀j x,(txnK.cells ps[k])[j]?=some x→wr.cell? ⟨b,O+k*4+j,none⟩=some x:=hc;have d:∀j x,(txnK.cells qs[k])[j]?=some x→wr.cell? ⟨b',L+k*4+j,none⟩=some x:=hd;have c0:=c 0 (F G ps[k].i) rfl;have d0:=d 0 (F G qs[k].i) rfl;have c1:=c 1 (F G ps[k].s) rfl;have d1:=d 1 (F G qs[k].s) rfl;have c2:=c 2 (F G ps[k].q) rfl;have d2:=d 2 (F G qs[k].q) rfl;have c3:=c 3 (ps[k].va) rfl;have d3:=d 3 (qs[k].va) rfl;have I:H ps[k]=H qs[k]:=by
    have:=congrArg (·[k]?) he;simpa[C,z]using this
   have N:=z01 TxnQ.n ps k C;clear hc c hd d;generalize ps[k]=p at*;generalize qs[k]=p' at*;have D:=fun w h1 h2=>q46 p p' w h1 h2 I (show TxnQ.n p≤1048576 by omega)
   clear I N;rw[Nat.add_zero]at c0 d0;have k0:=z0a c0;have l0:=z0a d0;have k1:=z0a c1;have l1:=z0a d1;have k2:=z0a c2;have l2:=z0a d2;have k3:=z0a c3;have l3:=z0a d3;clear c0 d0 c1 d1 c2 d2 c3 d3;have hW:Below wr.heap.size wr wr.drew:=(Below.refl _ _).drew;have M:Nonempty (Lat wr):=⟨⟨wr,Below.refl _ _⟩⟩
   go_wp2_with fail
   refine z0b (S:=fun w'=>∃u:Lat wr,w'=u.val) (by kernel_rfl) ?_;refine sgr [(0,8)] 2 (by kernel_rfl) ⟨⟨_,hW⟩,rfl⟩ ?_;simp only[pkE];repeat go_big_quiet_step (fail)
   refine wpQuiet_nil ?_;refine cla 8 (some 25) 142 #[.agg #[F G p.i,F G p.s,F G p.q,p.va],.agg #[F G p'.i,F G p'.s,F G p'.q,p'.va]] 1 (by kernel_rfl) ?_;refine(D _ (txnK.rd_below J hW) (txnK.rd_below A hW)).mono ?_;rintro e w2 ⟨rfl,E⟩;replace hW:=hW.trans (E.mono hW.size);clear E;refine⟨_,rfl,⟨⟨_,hW⟩,rfl⟩,?_⟩;simp only[Act.put,pjE];refine sgr [(9,1)] 0 (by kernel_rfl) ⟨⟨_,hW⟩,rfl⟩ ?_;simp only[pkE];repeat go_big_quiet_step (fail)
   refine wpQuiet_nil ?_;refine z0g (by kernel_rfl) ?_;replace hb:=hb.trans (hW.mono hb.size);clear k0 l0 k1 l1 k2 l2 k3 l3 hW M J A D
   go_wp2
   go_roundw
   case rel=>exact⟨k+1,by omega,by go_num,hb⟩
   case measure=>simp[intOf];omega
  ·go_wp2
   go_ret;exact⟨rfl,hb⟩
theorem z7e(v:Value)(ps:List TxnQ)(w:World)(h:txnK.At w v ps)(hl:(ps.length+nmL TxnQ.n ps)≤1048576):
  Calls Q 71 #[v] w fun e w'=>∃v' qs,e=.returned v'∧qs.map H=ps.map H∧txnK.Own w' v' qs∧(txnK.fp v' qs).Nodup∧(∀k∈txnK.fp v' qs,w.heap.size≤k)∧Below w.heap.size w w':=by
 obtain⟨a,cap,rfl⟩:=h.shape;obtain⟨i0,hi,ao,ap,aq⟩:=info_parts z1A;have M:i0.bytes*ps.length≤281474976710656:=by rw[aq];omega
 have ae:ps.length≤maxLen:=by unfold maxLen;omega
 go_enter func71,ntmps71
 go_wp2_with (at_make;refine wpList_make_full _ rfl _ _ 51 rfl w.heap.size 152 i0 (.agg #[F G 0,F G 0,F G 0,K none 0 0]) 4 Tryz.underlying51 hi ao ap _ _ _ _ ps.length rfl rfl rfl rfl M ae (f _) ?_)
 intro w1 O I;have Z:Below w.heap.size w w1:=(Below.refl _ _).grown I (f _) (by simp);have hO:txnK.Own w1 (K (some ⟨w.heap.size,0,none⟩) ps.length ps.length) (List.replicate ps.length (⟨0,0,0,K none 0 0,[]⟩:TxnQ)):=by
  refine⟨?_,fun p hp=>?_⟩
  ·rw[List.length_replicate,←z3Q (⟨0,0,0,K none 0 0,[]⟩:TxnQ) _ (by decide)];exact z0r O (Va _)
  ·rw[(List.mem_replicate.1 hp).2];exact⟨World.ownsRow_nil _ _ _ _,fun p hp=>by simp at hp⟩
 have hF:txnK.fp (K (some ⟨w.heap.size,0,none⟩) ps.length ps.length) (List.replicate ps.length (⟨0,0,0,K none 0 0,[]⟩:TxnQ))=[w.heap.size]:=z8d rfl;have HN:Hid ((txnK.fp (K (some ⟨w.heap.size,0,none⟩) ps.length ps.length) (List.replicate ps.length (⟨0,0,0,K none 0 0,[]⟩:TxnQ))).Nodup):=by rw[hF];show List.Nodup _;simp
 have HG:Hid (∀x∈txnK.fp (K (some ⟨w.heap.size,0,none⟩) ps.length ps.length) (List.replicate ps.length (⟨0,0,0,K none 0 0,[]⟩:TxnQ)),w.heap.size≤x):=by rw[hF];intro x hx;simp at hx;omega
 have HZ:Hid (∀j (hj:j<(List.replicate ps.length (⟨0,0,0,K none 0 0,[]⟩:TxnQ)).length),0≤j→(List.replicate ps.length (⟨0,0,0,K none 0 0,[]⟩:TxnQ))[j]=(⟨0,0,0,K none 0 0,[]⟩:TxnQ)):=fun j hj _=>by simp
 have af:(List.replicate ps.length (⟨0,0,0,K none 0 0,[]⟩:TxnQ)).length=ps.length:=by simp
 clear O I hF;generalize List.replicate ps.length (⟨0,0,0,K none 0 0,[]⟩:TxnQ)=aj at*;have HE:Hid ((aj.take 0).map H=(ps.take 0).map H):=show _=_ by simp
 go_wp2
 go_loopw [4] (fun i wr=>∃ (k:Nat) (qs:List TxnQ),k≤ps.length∧i=F G k∧Hid (qs.length=ps.length)∧Hid ((qs.take k).map H=(ps.take k).map H)∧Hid (∀ j (hj:j < qs.length),k≤j→qs[j]=(⟨0,0,0,K none 0 0,[]⟩:TxnQ))∧txnK.Own wr (K (some ⟨w.heap.size,0,none⟩) ps.length ps.length) qs ∧
  Hid ((txnK.fp (K (some ⟨w.heap.size,0,none⟩) ps.length ps.length) qs).Nodup)∧Hid (∀ x∈txnK.fp (K (some ⟨w.heap.size,0,none⟩) ps.length ps.length) qs,w.heap.size≤x)∧Below w.heap.size w wr) (fun i _=>ps.length - (intOf i).toNat)
 case atStart=>exact⟨0,aj,Va _,rfl,af,HE,HZ,hO,HN,HG,Z⟩
 case round=>
  clear HE HZ hO HN HG Z af;obtain⟨k,qs,hk,rfl,HQ,HE,HZ,hO,HN,HG,hb⟩:=hrel;by_cases W:k<ps.length
  ·have c:k<qs.length:=by have:=HQ.out;omega
   have D:=HZ.out k c (f _);obtain⟨b,ar,rfl,au,hc,ag⟩:=(h.below hb).cell (by decide) k W;have E:∀j x,(txnK.cells ps[k])[j]?=some x→wr.cell? ⟨b,ar+k*4+j,none⟩=some x:=hc;have c0:=E 0 (F G ps[k].i) rfl;have c1:=E 1 (F G ps[k].s) rfl;have c2:=E 2 (F G ps[k].q) rfl;have c3:=E 3 (ps[k].va) rfl;have ax:=z01 TxnQ.n ps k W;have Y:Hid (∀p':TxnQ,p'.e=H ps[k]→((qs.set k p').take (k+1)).map H=(ps.take (k+1)).map H):=by
    intro p' am;have h1:=HE.out;rw[Vc W,Vc (show k<(qs.set k p').length by simpa using c)];simp only[List.map_append,List.map_cons,List.map_nil,List.getElem_set_self,am,List.take_set_of_le (f k),h1]
   clear hc E;generalize ps[k]=p at*;have ah:=q47 p wr ag (by omega);rw[Nat.add_zero]at c0
   go_wp2_with fail
   refine ah.mono ?_;rintro e w2 ⟨p',rfl,X,d,J,y,aa⟩;obtain⟨x0,x1,x2,x3,y3⟩:=p';have o3:actK.Own w2 x3 y3:=d;obtain⟨a3,b3,rfl⟩:=o3.shape;clear o3;dsimp only;generalize hP:(⟨x0,x1,x2,K a3 y3.length b3,y3⟩:TxnQ)=p' at X d J y;have U:txnK.cells p'=[F G x0,F G x1,F G x2,K a3 y3.length b3]:=by rw[←hP];rfl
   have z:=hO.below aa;obtain⟨e0,f0⟩:=z.cell k c 0 _ (by rw[D];rfl);obtain⟨e1,f1⟩:=z.cell k c 1 _ (by rw[D];rfl);obtain⟨e2,f2⟩:=z.cell k c 2 _ (by rw[D];rfl);obtain⟨e3,f3⟩:=z.cell k c 3 _ (by rw[D];rfl);have ad:∀j,k*txnK.size+j=k*4+j:=fun j=>rfl
   rw[ad]at e0 f0 e1 f1 e2 f2 e3 f3;rw[Nat.add_zero]at e0 f0;have A:=z.1;have hQ:=HQ.out;rw[hQ]at A;have C:=z1l A (k*4) [F G x0,F G x1,F G x2,K a3 y3.length b3];rw[←U]at C;have V:∀x∈txnK.fp (K (some ⟨w.heap.size,0,none⟩) ps.length ps.length) qs,x<wr.heap.size:=hO.lt;have ab:w.heap.size∈txnK.fp (K (some ⟨w.heap.size,0,none⟩) ps.length ps.length) qs:=by simp[Kind.fp,blk,Value.ownBlock]
   have av:w.heap.size<wr.heap.size:=V _ ab;have L:=HN.out;have N:∀x∈txnK.foot p',x∉txnK.fp (K (some ⟨w.heap.size,0,none⟩) ps.length ps.length) qs:=fun x hx an=>by have:=y x hx;have:=V x an;omega
   have T:txnK.Own ((((w2.setCell ⟨w.heap.size,k*4,none⟩ (F G x0)).setCell ⟨w.heap.size,k*4+1,none⟩ (F G x1)).setCell ⟨w.heap.size,k*4+2,none⟩ (F G x2)).setCell ⟨w.heap.size,k*4+3,none⟩ (K a3 y3.length b3)) (K (some ⟨w.heap.size,0,none⟩) ps.length ps.length) (qs.set k p'):=by
    refine Kind.Own.put z k c p' ?_ ((((Out.setCell _ _ _ _).trans (Out.setCell _ _ _ _)).trans (Out.setCell _ _ _ _)).trans (Out.setCell _ _ _ _)) ?_ d ?_
    ·rw[hQ];rw[U]at C⊢;exact C
    ·intro q hq x hx ai;simp only[Kind.fp,blk,Value.ownBlock,Option.toList,List.cons_append,List.nil_append,List.nodup_cons]at L;exact L.1 (List.mem_flatMap.2 ⟨q,hq,ai▸hx⟩)
    ·intro x hx ai;have:=y x hx;omega
   have R:Hid (txnK.Own ((((w2.setCell ⟨w.heap.size,k*4,none⟩ (F G x0)).setCell ⟨w.heap.size,k*4+1,none⟩ (F G x1)).setCell ⟨w.heap.size,k*4+2,none⟩ (F G x2)).setCell ⟨w.heap.size,k*4+3,none⟩ (K a3 y3.length b3)) (K (some ⟨w.heap.size,0,none⟩) ps.length ps.length) (qs.set k p')∧Below w.heap.size w ((((w2.setCell ⟨w.heap.size,k*4,none⟩ (F G x0)).setCell ⟨w.heap.size,k*4+1,none⟩ (F G x1)).setCell ⟨w.heap.size,k*4+2,none⟩ (F G x2)).setCell ⟨w.heap.size,k*4+3,none⟩ (K a3 y3.length b3))):=by
    refine⟨T,?_⟩;have ak:=hb.trans (aa.mono hb.size);exact((((ak.setCell (p:=⟨w.heap.size,k*4,none⟩) (f _) _).setCell (p:=⟨w.heap.size,k*4+1,none⟩) (f _) _).setCell (p:=⟨w.heap.size,k*4+2,none⟩) (f _) _).setCell (p:=⟨w.heap.size,k*4+3,none⟩) (f _) _)
   have R1:Hid ((txnK.fp (K (some ⟨w.heap.size,0,none⟩) ps.length ps.length) (qs.set k p')).Nodup):=z2F L k c p' (by rw[D];rfl) J N;have R2:Hid (∀x∈txnK.fp (K (some ⟨w.heap.size,0,none⟩) ps.length ps.length) (qs.set k p'),w.heap.size≤x):=by
    intro x hx;simp only[Kind.fp,List.mem_append]at hx;rcases hx with hx|hx
    ·exact HG.out x (by simp only[Kind.fp,List.mem_append];exact Or.inl hx)
    ·rcases z1a c hx with hx|hx
     ·exact HG.out x (by simp only[Kind.fp,List.mem_append];exact Or.inr hx)
     ·have:=y x hx;omega
   have R3:Hid (∀j (hj:j<(qs.set k p').length),k+1≤j→(qs.set k p')[j]=(⟨0,0,0,K none 0 0,[]⟩:TxnQ)):=fun j hj aw=>by
    rw[List.getElem_set_ne (by omega)];exact HZ.out j (by simpa using hj) (by omega)
   have R4:Hid ((qs.set k p').length=ps.length):=by rw[List.length_set];exact HQ.out
   have R5:Hid (((qs.set k p').take (k+1)).map H=(ps.take (k+1)).map H):=Y.out p' X;clear T C A hQ z hO HN HG HZ HE HQ Y L N d J y V ab hb D ag ah X ad U hP
   go_wp2
   go_roundw
   case rel=>exact⟨k+1,qs.set k p',by omega,by go_num,R4.out,R5.out,R3.out,R.out.1,R1.out,R2.out,R.out.2⟩
   case measure=>simp[intOf];omega
  ·have al:k=ps.length:=by omega
   subst al;have hQ:=HQ.out;have hE:=HE.out;rw[List.take_length,List.take_of_length_le (by omega)]at hE;clear HE HZ
   go_wp2
   go_ret;exact⟨_,qs,rfl,hE,hO,HN.out,HG.out,hb⟩
def RoundQ.n(p:RoundQ):Nat:=p.rep.length+p.pro.length
def RoundQ.wf(p:RoundQ):Prop:=p.rep.length≤9223372036854775807∧p.pro.length≤9223372036854775807
theorem z3R:(Q.info? 138).map (fun i=>(i.zero,i.size,i.bytes))=some (some (.agg #[K none 0 0,K none 0 0]),2,48):=by kernel_rfl
theorem z7f(v:Value)(zs:List Int)(c:Int)(w:World)(h:intK.At w v zs)(hn:zs.length≤9223372036854775807)(h0:0≤c)(h1:c≤1048576):
  Calls Q 58 #[v,F G c] w fun e w'=>∃r:Int,e=.returned (F G r)∧(¬r<0→(zs.length:Int)+r=c)∧Below w.heap.size w w':=by
 obtain⟨a,cap,rfl⟩:=h.shape;by_cases hbig:c-zs.length<0
 ·go_enter func58,ntmps58
  go_wp2
  go_ret;exact⟨_,rfl,fun h=>by omega,Below.refl _ _⟩
 ·go_enter func58,ntmps58
  go_wp2
  go_ret;exact⟨_,rfl,fun h=>by omega,Below.refl _ _⟩
theorem q17(p:RoundQ)(c:Int)(w:World)(h:roundK.rd w p)(hn:RoundQ.wf p)(h0:0≤c)(h1:c≤1048576):
  Calls Q 101 #[.agg #[p.vr,p.vp],F G c] w fun e w'=>∃r:Int,e=.returned (F G r)∧(¬r<0→(RoundQ.n p:Int)+r=c)∧Below w.heap.size w w':=by
 obtain⟨vr,x,vp,d⟩:=p;obtain⟨D,E⟩:intK.At w vr x∧intK.At w vp d:=h;obtain⟨I,J⟩:x.length≤9223372036854775807∧d.length≤9223372036854775807:=hn;obtain⟨a0,k0,rfl⟩:=D.shape;obtain⟨a1,k1,rfl⟩:=E.shape;have B:=Vb w 163 #[K a0 x.length k0,K a1 d.length k1];have hB:Below w.heap.size w (w.alloc (.cells #[K a0 x.length k0,K a1 d.length k1] 163)):=by go_grown
 dsimp only[RoundQ.n];go_enter func101,ntmps101
 go_wp2_with fail
 generalize w.alloc (.cells #[K a0 x.length k0,K a1 d.length k1] 163)=W at*;refine(z7f _ x c W (D.below hB) I (by omega) (by omega)).mono ?_;rintro e w0 ⟨r0,rfl,L,y⟩;replace B:=B.below y;replace hB:=hB.trans (y.mono hB.size);clear y;by_cases A:r0<0
 ·go_wp2
  go_ret;exact⟨_,rfl,fun h=>by omega,hB⟩
 have N:=L A;clear L;have p1:=B.cell 1 _ rfl
 go_wp2_with fail
 clear p1;refine(z7f _ d r0 w0 (E.below hB) J (by omega) (by omega)).mono ?_;rintro e w1 ⟨r1,rfl,M,z⟩;replace B:=B.below z;replace hB:=hB.trans (z.mono hB.size);clear z;by_cases C:r1<0
 ·go_wp2
  go_ret;exact⟨_,rfl,fun h=>by omega,hB⟩
 have O:=M C;clear M
 go_wp2
 go_ret;exact⟨_,rfl,fun _=>by omega,hB⟩
theorem q18(p p':RoundQ)(w:World)(h:roundK.rd w p)(h':roundK.rd w p')(he:p.e=p'.e)(hl:RoundQ.n p≤1048576):
  Calls Q 143 #[.agg #[p.vr,p.vp],.agg #[p'.vr,p'.vp]] w fun e w'=>e=.returned (.bool true)∧Below w.heap.size w w':=by
 obtain⟨vr,d,vp,c⟩:=p;obtain⟨O,M,N,L⟩:=p';simp only[t,RoundE.mk.injEq]at he;obtain⟨T,U⟩:=he;dsimp only[RoundQ.n]at hl;obtain⟨D,E⟩:intK.At w vr d∧intK.At w vp c:=h;obtain⟨z,A⟩:intK.At w O M∧intK.At w N L:=h';subst T;subst U;have I:=fun w h1 h2=>z7b vr O d w h1 h2 (by omega)
 have J:=fun w h1 h2=>z7b vp N c w h1 h2 (by omega)
 obtain⟨a0,k0,rfl⟩:=D.shape;obtain⟨b0,m0,rfl⟩:=z.shape;obtain⟨a1,k1,rfl⟩:=E.shape;obtain⟨b1,m1,rfl⟩:=A.shape;have B:=(Vb w 138 #[K a0 d.length k0,K a1 c.length k1]).below (w':=(w.alloc (.cells #[K a0 d.length k0,K a1 c.length k1] 138)).alloc (.cells #[K b0 d.length m0,K b1 c.length m1] 138)) (by go_grown);have C:=Vb (w.alloc (.cells #[K a0 d.length k0,K a1 c.length k1] 138)) 138 #[K b0 d.length m0,K b1 c.length m1];have hB:Below w.heap.size w ((w.alloc (.cells #[K a0 d.length k0,K a1 c.length k1] 138)).alloc (.cells #[K b0 d.length m0,K b1 c.length m1] 138)):=by go_grown
 rw[World.size_alloc]at C;skip;go_enter func143,ntmps143
 go_wp2_with fail
 generalize (w.alloc (.cells #[K a0 d.length k0,K a1 c.length k1] 138)).alloc (.cells #[K b0 d.length m0,K b1 c.length m1] 138)=W at*;refine(I W (D.below hB) (z.below hB)).mono ?_;rintro e w0 ⟨rfl,x⟩;replace B:=B.below x;replace C:=C.below x;replace hB:=hB.trans (x.mono hB.size);clear x I;have p1:=B.cell 1 _ rfl;have q1:=C.cell 1 _ rfl
 go_wp2_with fail
 clear p1 q1;refine(J w0 (E.below hB) (A.below hB)).mono ?_;rintro e w1 ⟨rfl,y⟩;replace B:=B.below y;replace C:=C.below y;replace hB:=hB.trans (y.mono hB.size);clear y J
 go_wp2
 go_ret;exact⟨rfl,hB⟩
theorem z5i{A B:List Nat}{m:Nat}(hA:∀k∈A,k<m)(hB:∀k∈B,m≤k):∀a∈A,∀b∈B,a≠b:=fun a ha b hb e=>by
 have:=hA a ha;have:=hB b hb;omega
theorem q19(p:RoundQ)(w:World)(h:roundK.rd w p)(hl:RoundQ.n p≤1048576):
  Calls Q 121 #[.agg #[p.vr,p.vp]] w fun e w'=>∃p':RoundQ,e=.returned (.agg #[p'.vr,p'.vp])∧p'.e=p.e∧roundK.own w' p'∧(roundK.foot p').Nodup∧(∀k∈roundK.foot p',w.heap.size≤k)∧Below w.heap.size w w':=by
 obtain⟨vr,c,vp,d⟩:=p;dsimp only[RoundQ.n]at hl;obtain⟨x,y⟩:intK.At w vr c∧intK.At w vp d:=h;have z:=fun w h1=>z7a vr c w h1 (by omega)
 have A:=fun w h1=>z7a vp d w h1 (by omega)
 obtain⟨a0,k0,rfl⟩:=x.shape;obtain⟨a1,k1,rfl⟩:=y.shape;have B:=(Vb w 163 #[K a0 c.length k0,K a1 d.length k1]).below (w':=((w.alloc (.cells #[K a0 c.length k0,K a1 d.length k1] 163)).alloc (.cells #[K none 0 0,K none 0 0] 138)).alloc (.cells #[K none 0 0,K none 0 0] 138)) (by go_grown);have C:=(Vb (w.alloc (.cells #[K a0 c.length k0,K a1 d.length k1] 163)) 138 #[K none 0 0,K none 0 0]).below (w':=((w.alloc (.cells #[K a0 c.length k0,K a1 d.length k1] 163)).alloc (.cells #[K none 0 0,K none 0 0] 138)).alloc (.cells #[K none 0 0,K none 0 0] 138)) (by go_grown);have D:=Vb ((w.alloc (.cells #[K a0 c.length k0,K a1 d.length k1] 163)).alloc (.cells #[K none 0 0,K none 0 0] 138)) 138 #[K none 0 0,K none 0 0];have hB:Below w.heap.size w (((w.alloc (.cells #[K a0 c.length k0,K a1 d.length k1] 163)).alloc (.cells #[K none 0 0,K none 0 0] 138)).alloc (.cells #[K none 0 0,K none 0 0] 138)):=by go_grown
 simp only[World.size_alloc]at C D;have hS:w.heap.size+3≤(((w.alloc (.cells #[K a0 c.length k0,K a1 d.length k1] 163)).alloc (.cells #[K none 0 0,K none 0 0] 138)).alloc (.cells #[K none 0 0,K none 0 0] 138)).heap.size:=by simp only[World.size_alloc];omega
 go_enter func121,ntmps121
 go_wp2_with fail
 generalize ((w.alloc (.cells #[K a0 c.length k0,K a1 d.length k1] 163)).alloc (.cells #[K none 0 0,K none 0 0] 138)).alloc (.cells #[K none 0 0,K none 0 0] 138)=W at*;refine(z W (x.below hB)).mono ?_;rintro e y0 ⟨v0,rfl,O0,N0,G0,hb⟩;replace B:=B.below hb;replace C:=C.below hb;replace D:=D.below hb;replace hB:=hB.trans (hb.mono hB.size);have s0:=hb.size;obtain⟨x0,z0,rfl⟩:=O0.shape;clear hb z;have p1:=B.cell 1 _ rfl;have d0:=D.cell 0 _ rfl;have f0:=D.frozen 0
 go_wp2_with fail
 clear p1 d0 f0;have U0:=(Out.refl [w.heap.size+1,w.heap.size+1+1] y0).set (b:=w.heap.size+1+1) (j:=0) (u:=K x0 c.length z0) (by simp);replace D:=D.set 0 (K x0 c.length z0);replace B:=B.other (b':=w.heap.size+1+1) (by omega) 0 (K x0 c.length z0);replace C:=C.other (b':=w.heap.size+1+1) (by omega) 0 (K x0 c.length z0);replace hB:=hB.setCell (p:=⟨w.heap.size+1+1,0,none⟩) (by show w.heap.size≤w.heap.size+1+1;omega) (K x0 c.length z0);have s1:=U0.size;simp only[pjE]at D;generalize y0.setCell ⟨w.heap.size+1+1,0,none⟩ (K x0 c.length z0)=V0 at*;refine(A V0 (y.below hB)).mono ?_;rintro e y1 ⟨v1,rfl,O1,N1,G1,hb⟩;replace U0:=U0.call hb;replace B:=B.below hb;replace C:=C.below hb;replace D:=D.below hb;replace hB:=hB.trans (hb.mono hB.size);have s2:=hb.size;obtain⟨x1,z1,rfl⟩:=O1.shape;clear hb A B;have d0:=D.cell 0 _ rfl;have f0:=D.frozen 0;have d1:=D.cell 1 _ rfl;have f1:=D.frozen 1;have c0:=C.cell 0 _ rfl;have g0:=C.frozen 0;have c1:=C.cell 1 _ rfl;have g1:=C.frozen 1;have R:Hid (∀j u j' u' j2 u2,roundK.own (((y1.setCell ⟨w.heap.size+1+1,j,none⟩ u).setCell ⟨w.heap.size+1,j',none⟩ u').setCell ⟨w.heap.size+1,j2,none⟩ u2) ⟨K x0 c.length z0,c,K x1 d.length z1,d⟩∧Below w.heap.size w (((y1.setCell ⟨w.heap.size+1+1,j,none⟩ u).setCell ⟨w.heap.size+1,j',none⟩ u').setCell ⟨w.heap.size+1,j2,none⟩ u2)):=by
  intro j u j' u' j2 u2;have V0:=((U0.set (b:=w.heap.size+1+1) (j:=j) (u:=u) (by simp)).set (b:=w.heap.size+1) (j:=j') (u:=u') (by simp)).set (b:=w.heap.size+1) (j:=j2) (u:=u2) (by simp);have V1:=(((Out.refl [w.heap.size+1,w.heap.size+1+1] y1).set (b:=w.heap.size+1+1) (j:=j) (u:=u) (by simp)).set (b:=w.heap.size+1) (j:=j') (u:=u') (by simp)).set (b:=w.heap.size+1) (j:=j2) (u:=u2) (by simp);refine⟨⟨O0.out V0 (fun k hk=>?_),O1.out V1 (fun k hk=>?_)⟩,?_⟩
  ·have:=G0 k hk;simp only[List.mem_cons,List.not_mem_nil,or_false];omega
  ·have:=G1 k hk;simp only[List.mem_cons,List.not_mem_nil,or_false];omega
  ·exact((hB.setCell (p:=⟨w.heap.size+1+1,j,none⟩) (by show w.heap.size≤w.heap.size+1+1;omega) u).setCell (p:=⟨w.heap.size+1,j',none⟩) (by show w.heap.size≤w.heap.size+1;omega) u').setCell (p:=⟨w.heap.size+1,j2,none⟩) (by show w.heap.size≤w.heap.size+1;omega) u2
 have R1:Hid ((roundK.foot ⟨K x0 c.length z0,c,K x1 d.length z1,d⟩).Nodup∧(∀k∈roundK.foot ⟨K x0 c.length z0,c,K x1 d.length z1,d⟩,w.heap.size≤k)):=by
  have L0:=O0.lt;refine⟨?_,?_⟩
  ·show List.Nodup (_++_);exact List.nodup_append.2 ⟨N0,N1,z5i (m:=V0.heap.size) (fun k hk=>by have:=L0 k hk;omega) G1⟩
  ·intro k hk;rcases List.mem_append.1 hk with hk|hk
   ·have:=G0 k hk;omega
   ·have:=G1 k hk;omega
 clear O0 O1 N0 N1 G0 G1 U0 hB C D x y
 go_wp2
 exact bodyPost_ret (v:=.agg #[K x0 c.length z0,K x1 d.length z1]) (by simp[results,results121,go_sem,c0,c1]) rfl ⟨⟨K x0 c.length z0,c,K x1 d.length z1,d⟩,rfl,rfl,(R.out _ _ _ _ _ _).1,R1.out.1,R1.out.2,(R.out _ _ _ _ _ _).2⟩
theorem q1a(v:Value)(ps:List RoundQ)(c:Int)(w:World)(h:roundK.At w v ps)(hn:ps.length≤9223372036854775807)(J:∀p∈ps,RoundQ.wf p)(h0:0≤c)(h1:c≤1048576):
  Calls Q 57 #[v,F G c] w fun e w'=>∃r:Int,e=.returned (F G r)∧(¬r<0→((ps.length+nmL RoundQ.n ps:Nat):Int)+r=c)∧Below w.heap.size w w':=by
 obtain⟨a,cap,rfl⟩:=h.shape;by_cases U:c-ps.length<0
 ·go_enter func57,ntmps57
  go_wp2
  go_ret;exact⟨_,rfl,fun h=>by omega,Below.refl _ _⟩
 ·go_enter func57,ntmps57
  go_wp2
  go_loopw[1,5] (fun l i wr=>∃ (k:Nat) (x:Int),k≤ps.length∧i=F G k∧l=F G x∧0≤x∧x≤1048576∧Hid (ps.length+nmL RoundQ.n (ps.take k)+x=c)∧Below w.heap.size w wr) (fun _ i _=>ps.length-(intOf i).toNat)
  case atStart=>exact⟨0,c-ps.length,Va _,rfl,by go_num,by omega,by omega,show _=_ by simp[nmL];omega,Below.refl _ _⟩
  case round=>
   obtain⟨k,x,hk,rfl,rfl,N,O,HS,hb⟩:=hrel;by_cases z:k<ps.length
   ·obtain⟨b,T,rfl,W,hc,M⟩:=(h.below hb).cell (by decide) k z;have d:∀j x,(roundK.cells ps[k])[j]?=some x→wr.cell? ⟨b,T+k*2+j,none⟩=some x:=hc;have c0:=d 0 (ps[k].vr) rfl;have c1:=d 1 (ps[k].vp) rfl;have hs:=z0S RoundQ.n ps k z;have HN:=J _ (List.getElem_mem z);have A:Hid (∀y:Int,(RoundQ.n ps[k]:Int)+y=x→ps.length+nmL RoundQ.n (ps.take (k+1))+y=c):=by
     intro y hy;have:=HS.out;omega
    clear HS hs hc d;generalize ps[k]=p at*;have E:=q17 p x wr M HN N O;generalize RoundQ.n p=m at*;rw[Nat.add_zero]at c0
    go_wp2_with fail
    refine E.mono ?_;rintro e w2 ⟨r,rfl,hr,C⟩;replace hb:=hb.trans (C.mono hb.size);clear C E c0 c1;by_cases V:r<0
    ·go_wp2
     go_ret;exact⟨_,rfl,fun h=>by omega,hb⟩
    ·have D:=hr (by omega);have HR:Hid (ps.length+nmL RoundQ.n (ps.take (k+1))+r=c):=A.out r D;have L:r≤1048576:=by omega
     clear A hr D
     go_wp2
     go_roundw
     case rel=>exact⟨k+1,r,by omega,by go_num,rfl,by omega,L,HR.out,hb⟩
     case measure=>simp[intOf];omega
   ·have I:k=ps.length:=by omega
    subst I;rw[List.take_length]at HS
    go_wp2
    go_ret;exact⟨_,rfl,fun _=>by have:=HS.out;omega,hb⟩
theorem q1b(v v':Value)(ps qs:List RoundQ)(w:World)(h:roundK.At w v ps)(h':roundK.At w v' qs)(he:ps.map t=qs.map t)(hl:(ps.length+nmL RoundQ.n ps)≤1048576):
  Calls Q 90 #[v,v'] w fun e w'=>e=.returned (.bool true)∧Below w.heap.size w w':=by
 obtain⟨a,cap,rfl⟩:=h.shape;obtain⟨a',T,rfl⟩:=h'.shape;have c:qs.length=ps.length:=by
  have:=congrArg List.length he;simpa using this.symm
 rw[c]at h'⊢;have HL:Hid (qs.length=ps.length):=c;clear c;go_enter func90,ntmps90
 go_wp2
 go_loopw[5] (fun i wr=>∃k:Nat,k≤ps.length∧i=F G k∧Below w.heap.size w wr) (fun i _=>ps.length-(intOf i).toNat)
 case atStart=>exact⟨0,Va _,rfl,Below.refl _ _⟩
 case round=>
  obtain⟨k,hk,rfl,hb⟩:=hrel;by_cases C:k<ps.length
  ·have d:k<qs.length:=by have:=HL.out;omega
   obtain⟨b,O,rfl,V,hc,J⟩:=(h.below hb).cell (by decide) k C;obtain⟨b',L,rfl,U,hd,y⟩:=(h'.below hb).cell (by decide) k d;have z:∀j x,(roundK.cells ps[k])[j]?=some x→wr.cell? ⟨b,O+k*2+j,none⟩=some x:=hc;have A:∀j x,(roundK.cells qs[k])[j]?=some x→wr.cell? ⟨b',L+k*2+j,none⟩=some x:=hd;have c0:=z 0 (ps[k].vr) rfl;have d0:=A 0 (qs[k].vr) rfl;have c1:=z 1 (ps[k].vp) rfl;have d1:=A 1 (qs[k].vp) rfl;have I:t ps[k]=t qs[k]:=by
    have:=congrArg (·[k]?) he;simpa[C,d]using this
   have N:=z01 RoundQ.n ps k C;clear hc z hd A;generalize ps[k]=p at*;generalize qs[k]=p' at*;have D:=fun w h1 h2=>q18 p p' w h1 h2 I (show RoundQ.n p≤1048576 by omega)
   clear I N;rw[Nat.add_zero]at c0 d0;have k0:=z0a c0;have l0:=z0a d0;have k1:=z0a c1;have l1:=z0a d1;clear c0 d0 c1 d1;have hW:Below wr.heap.size wr wr.drew:=(Below.refl _ _).drew;have M:Nonempty (Lat wr):=⟨⟨wr,Below.refl _ _⟩⟩
   go_wp2_with fail
   refine z0b (S:=fun w'=>∃u:Lat wr,w'=u.val) (by kernel_rfl) ?_;refine sgr [(0,8)] 2 (by kernel_rfl) ⟨⟨_,hW⟩,rfl⟩ ?_;simp only[pkE];repeat go_big_quiet_step (fail)
   refine wpQuiet_nil ?_;refine cla 8 (some 25) 143 #[.agg #[p.vr,p.vp],.agg #[p'.vr,p'.vp]] 1 (by kernel_rfl) ?_;refine(D _ (roundK.rd_below J hW) (roundK.rd_below y hW)).mono ?_;rintro e w2 ⟨rfl,E⟩;replace hW:=hW.trans (E.mono hW.size);clear E;refine⟨_,rfl,⟨⟨_,hW⟩,rfl⟩,?_⟩;simp only[Act.put,pjE];refine sgr [(9,1)] 0 (by kernel_rfl) ⟨⟨_,hW⟩,rfl⟩ ?_;simp only[pkE];repeat go_big_quiet_step (fail)
   refine wpQuiet_nil ?_;refine z0g (by kernel_rfl) ?_;replace hb:=hb.trans (hW.mono hb.size);clear k0 l0 k1 l1 hW M J y D
   go_wp2
   go_roundw
   case rel=>exact⟨k+1,by omega,by go_num,hb⟩
   case measure=>simp[intOf];omega
  ·go_wp2
   go_ret;exact⟨rfl,hb⟩
theorem q1c(v:Value)(ps:List RoundQ)(w:World)(h:roundK.At w v ps)(hl:(ps.length+nmL RoundQ.n ps)≤1048576):
  Calls Q 72 #[v] w fun e w'=>∃v' qs,e=.returned v'∧qs.map t=ps.map t∧roundK.Own w' v' qs∧(roundK.fp v' qs).Nodup∧(∀k∈roundK.fp v' qs,w.heap.size≤k)∧Below w.heap.size w w':=by
 obtain⟨a,cap,rfl⟩:=h.shape;obtain⟨i0,hi,ao,ap,aq⟩:=info_parts z3R;have J:i0.bytes*ps.length≤281474976710656:=by rw[aq];omega
 have ae:ps.length≤maxLen:=by unfold maxLen;omega
 go_enter func72,ntmps72
 go_wp2_with (at_make;refine wpList_make_full _ rfl _ _ 61 rfl w.heap.size 138 i0 (.agg #[K none 0 0,K none 0 0]) 2 Tryz.underlying61 hi ao ap _ _ _ _ ps.length rfl rfl rfl rfl J ae (f _) ?_)
 intro w1 N D;have Z:Below w.heap.size w w1:=(Below.refl _ _).grown D (f _) (by simp);have hO:roundK.Own w1 (K (some ⟨w.heap.size,0,none⟩) ps.length ps.length) (List.replicate ps.length (⟨K none 0 0,[],K none 0 0,[]⟩:RoundQ)):=by
  refine⟨?_,fun p hp=>?_⟩
  ·rw[List.length_replicate,←z3Q (⟨K none 0 0,[],K none 0 0,[]⟩:RoundQ) _ (by decide)];exact z0r N (Va _)
  ·rw[(List.mem_replicate.1 hp).2];exact⟨⟨World.ownsRow_nil _ _ _ _,fun p hp=>by simp at hp⟩,⟨World.ownsRow_nil _ _ _ _,fun p hp=>by simp at hp⟩⟩
 have hF:roundK.fp (K (some ⟨w.heap.size,0,none⟩) ps.length ps.length) (List.replicate ps.length (⟨K none 0 0,[],K none 0 0,[]⟩:RoundQ))=[w.heap.size]:=z8d rfl;have HN:Hid ((roundK.fp (K (some ⟨w.heap.size,0,none⟩) ps.length ps.length) (List.replicate ps.length (⟨K none 0 0,[],K none 0 0,[]⟩:RoundQ))).Nodup):=by rw[hF];show List.Nodup _;simp
 have HG:Hid (∀x∈roundK.fp (K (some ⟨w.heap.size,0,none⟩) ps.length ps.length) (List.replicate ps.length (⟨K none 0 0,[],K none 0 0,[]⟩:RoundQ)),w.heap.size≤x):=by rw[hF];intro x hx;simp at hx;omega
 have HZ:Hid (∀j (hj:j<(List.replicate ps.length (⟨K none 0 0,[],K none 0 0,[]⟩:RoundQ)).length),0≤j→(List.replicate ps.length (⟨K none 0 0,[],K none 0 0,[]⟩:RoundQ))[j]=(⟨K none 0 0,[],K none 0 0,[]⟩:RoundQ)):=fun j hj _=>by simp
 have af:(List.replicate ps.length (⟨K none 0 0,[],K none 0 0,[]⟩:RoundQ)).length=ps.length:=by simp
 clear N D hF;generalize List.replicate ps.length (⟨K none 0 0,[],K none 0 0,[]⟩:RoundQ)=aj at*;have HE:Hid ((aj.take 0).map t=(ps.take 0).map t):=show _=_ by simp
 go_wp2
 go_loopw [4] (fun i wr=>∃ (k:Nat) (qs:List RoundQ),k≤ps.length∧i=F G k∧Hid (qs.length=ps.length)∧Hid ((qs.take k).map t=(ps.take k).map t)∧Hid (∀ j (hj:j < qs.length),k≤j→qs[j]=(⟨K none 0 0,[],K none 0 0,[]⟩:RoundQ))∧roundK.Own wr (K (some ⟨w.heap.size,0,none⟩) ps.length ps.length) qs ∧
  Hid ((roundK.fp (K (some ⟨w.heap.size,0,none⟩) ps.length ps.length) qs).Nodup)∧Hid (∀ x∈roundK.fp (K (some ⟨w.heap.size,0,none⟩) ps.length ps.length) qs,w.heap.size≤x)∧Below w.heap.size w wr) (fun i _=>ps.length - (intOf i).toNat)
 case atStart=>exact⟨0,aj,Va _,rfl,af,HE,HZ,hO,HN,HG,Z⟩
 case round=>
  clear HE HZ hO HN HG Z af;obtain⟨k,qs,hk,rfl,HQ,HE,HZ,hO,HN,HG,hb⟩:=hrel;by_cases W:k<ps.length
  ·have c:k<qs.length:=by have:=HQ.out;omega
   have L:=HZ.out k c (f _);obtain⟨b,ar,rfl,au,hc,ag⟩:=(h.below hb).cell (by decide) k W;have T:∀j x,(roundK.cells ps[k])[j]?=some x→wr.cell? ⟨b,ar+k*2+j,none⟩=some x:=hc;have c0:=T 0 (ps[k].vr) rfl;have c1:=T 1 (ps[k].vp) rfl;have ax:=z01 RoundQ.n ps k W;have Y:Hid (∀p':RoundQ,p'.e=t ps[k]→((qs.set k p').take (k+1)).map t=(ps.take (k+1)).map t):=by
    intro p' am;have h1:=HE.out;rw[Vc W,Vc (show k<(qs.set k p').length by simpa using c)];simp only[List.map_append,List.map_cons,List.map_nil,List.getElem_set_self,am,List.take_set_of_le (f k),h1]
   clear hc T;generalize ps[k]=p at*;have ah:=q19 p wr ag (by omega);rw[Nat.add_zero]at c0
   go_wp2_with fail
   refine ah.mono ?_;rintro e w2 ⟨p',rfl,X,d,E,y,aa⟩;obtain⟨x0,y0,x1,y1⟩:=p';obtain⟨o0,o1⟩:intK.Own w2 x0 y0∧intK.Own w2 x1 y1:=And.intro d.1 d.2;obtain⟨a0,b0,rfl⟩:=o0.shape;obtain⟨a1,b1,rfl⟩:=o1.shape;clear o0 o1;dsimp only;generalize hP:(⟨K a0 y0.length b0,y0,K a1 y1.length b1,y1⟩:RoundQ)=p' at X d E y;have U:roundK.cells p'=[K a0 y0.length b0,K a1 y1.length b1]:=by rw[←hP];rfl
   have C:=hO.below aa;obtain⟨e0,f0⟩:=C.cell k c 0 _ (by rw[L];rfl);obtain⟨e1,f1⟩:=C.cell k c 1 _ (by rw[L];rfl);have ad:∀j,k*roundK.size+j=k*2+j:=fun j=>rfl
   rw[ad]at e0 f0 e1 f1;rw[Nat.add_zero]at e0 f0;have z:=C.1;have hQ:=HQ.out;rw[hQ]at z;have A:=z1l z (k*2) [K a0 y0.length b0,K a1 y1.length b1];rw[←U]at A;have V:∀x∈roundK.fp (K (some ⟨w.heap.size,0,none⟩) ps.length ps.length) qs,x<wr.heap.size:=hO.lt;have ab:w.heap.size∈roundK.fp (K (some ⟨w.heap.size,0,none⟩) ps.length ps.length) qs:=by simp[Kind.fp,blk,Value.ownBlock]
   have av:w.heap.size<wr.heap.size:=V _ ab;have I:=HN.out;have M:∀x∈roundK.foot p',x∉roundK.fp (K (some ⟨w.heap.size,0,none⟩) ps.length ps.length) qs:=fun x hx an=>by have:=y x hx;have:=V x an;omega
   have O:roundK.Own ((w2.setCell ⟨w.heap.size,k*2,none⟩ (K a0 y0.length b0)).setCell ⟨w.heap.size,k*2+1,none⟩ (K a1 y1.length b1)) (K (some ⟨w.heap.size,0,none⟩) ps.length ps.length) (qs.set k p'):=by
    refine Kind.Own.put C k c p' ?_ ((Out.setCell _ _ _ _).trans (Out.setCell _ _ _ _)) ?_ d ?_
    ·rw[hQ];rw[U]at A⊢;exact A
    ·intro q hq x hx ai;simp only[Kind.fp,blk,Value.ownBlock,Option.toList,List.cons_append,List.nil_append,List.nodup_cons]at I;exact I.1 (List.mem_flatMap.2 ⟨q,hq,ai▸hx⟩)
    ·intro x hx ai;have:=y x hx;omega
   have R:Hid (roundK.Own ((w2.setCell ⟨w.heap.size,k*2,none⟩ (K a0 y0.length b0)).setCell ⟨w.heap.size,k*2+1,none⟩ (K a1 y1.length b1)) (K (some ⟨w.heap.size,0,none⟩) ps.length ps.length) (qs.set k p')∧Below w.heap.size w ((w2.setCell ⟨w.heap.size,k*2,none⟩ (K a0 y0.length b0)).setCell ⟨w.heap.size,k*2+1,none⟩ (K a1 y1.length b1))):=by
    refine⟨O,?_⟩;have ak:=hb.trans (aa.mono hb.size);exact((ak.setCell (p:=⟨w.heap.size,k*2,none⟩) (f _) _).setCell (p:=⟨w.heap.size,k*2+1,none⟩) (f _) _)
   have R1:Hid ((roundK.fp (K (some ⟨w.heap.size,0,none⟩) ps.length ps.length) (qs.set k p')).Nodup):=z2F I k c p' (by rw[L];rfl) E M;have R2:Hid (∀x∈roundK.fp (K (some ⟨w.heap.size,0,none⟩) ps.length ps.length) (qs.set k p'),w.heap.size≤x):=by
    intro x hx;simp only[Kind.fp,List.mem_append]at hx;rcases hx with hx|hx
    ·exact HG.out x (by simp only[Kind.fp,List.mem_append];exact Or.inl hx)
    ·rcases z1a c hx with hx|hx
     ·exact HG.out x (by simp only[Kind.fp,List.mem_append];exact Or.inr hx)
     ·have:=y x hx;omega
   have R3:Hid (∀j (hj:j<(qs.set k p').length),k+1≤j→(qs.set k p')[j]=(⟨K none 0 0,[],K none 0 0,[]⟩:RoundQ)):=fun j hj aw=>by
    rw[List.getElem_set_ne (by omega)];exact HZ.out j (by simpa using hj) (by omega)
   have R4:Hid ((qs.set k p').length=ps.length):=by rw[List.length_set];exact HQ.out
   have R5:Hid (((qs.set k p').take (k+1)).map t=(ps.take (k+1)).map t):=Y.out p' X;clear O A z hQ C hO HN HG HZ HE HQ Y I M d E y V ab hb L ag ah X ad U hP
   go_wp2
   go_roundw
   case rel=>exact⟨k+1,qs.set k p',by omega,by go_num,R4.out,R5.out,R3.out,R.out.1,R1.out,R2.out,R.out.2⟩
   case measure=>simp[intOf];omega
  ·have al:k=ps.length:=by omega
   subst al;have hQ:=HQ.out;have hE:=HE.out;rw[List.take_length,List.take_of_length_le (by omega)]at hE;clear HE HZ
   go_wp2
   go_ret;exact⟨_,qs,rfl,hE,hO,HN.out,HG.out,hb⟩
def InstQ.n(p:InstQ):Nat:=(p.batch.length+nmL TxnQ.n p.batch)+(p.rounds.length+nmL RoundQ.n p.rounds)+p.dec.length
def InstQ.wf(p:InstQ):Prop:=(p.batch.length≤9223372036854775807∧∀q∈p.batch,TxnQ.wf q)∧(p.rounds.length≤9223372036854775807∧∀q∈p.rounds,RoundQ.wf q)∧p.dec.length≤9223372036854775807
theorem z8g(p:InstQ)(c:Int)(w:World)(h:instK.rd w p)(hn:InstQ.wf p)(h0:0≤c)(h1:c≤1048576):
  Calls Q 30 #[.agg #[.bool p.has,p.vb,p.vr,p.vd],F G c] w fun e w'=>∃r:Int,e=.returned (F G r)∧(¬r<0→(InstQ.n p:Int)+r=c)∧Below w.heap.size w w':=by
 obtain⟨has,vb,x,vr,d,vd,dec⟩:=p;obtain⟨L,M,N⟩:txnK.At w vb x∧roundK.At w vr d∧intK.At w vd dec:=h;obtain⟨y,z,O⟩:(x.length≤9223372036854775807∧∀p∈x,TxnQ.wf p)∧(d.length≤9223372036854775807∧∀p∈d,RoundQ.wf p)∧dec.length≤9223372036854775807:=hn;obtain⟨a1,k1,rfl⟩:=L.shape;obtain⟨a2,k2,rfl⟩:=M.shape;obtain⟨a3,k3,rfl⟩:=N.shape;have B:=Vb w 78 #[.bool has,K a1 x.length k1,K a2 d.length k2,K a3 dec.length k3];have hB:Below w.heap.size w (w.alloc (.cells #[.bool has,K a1 x.length k1,K a2 d.length k2,K a3 dec.length k3] 78)):=by go_grown
 dsimp only[InstQ.n];go_enter func30,ntmps30
 go_wp2_with fail
 generalize w.alloc (.cells #[.bool has,K a1 x.length k1,K a2 d.length k2,K a3 dec.length k3] 78)=W at*;refine(z7c _ x c W (L.below hB) y.1 y.2 (by omega) (by omega)).mono ?_;rintro e w1 ⟨r1,rfl,T,A⟩;replace B:=B.below A;replace hB:=hB.trans (A.mono hB.size);clear A;by_cases E:r1<0
 ·go_wp2
  go_ret;exact⟨_,rfl,fun h=>by omega,hB⟩
 have X:=T E;clear T;have p2:=B.cell 2 _ rfl
 go_wp2_with fail
 clear p2;refine(q1a _ d r1 w1 (M.below hB) z.1 z.2 (by omega) (by omega)).mono ?_;rintro e w2 ⟨r2,rfl,U,C⟩;replace B:=B.below C;replace hB:=hB.trans (C.mono hB.size);clear C;by_cases I:r2<0
 ·go_wp2
  go_ret;exact⟨_,rfl,fun h=>by omega,hB⟩
 have Y:=U I;clear U;have p3:=B.cell 3 _ rfl
 go_wp2_with fail
 clear p3;refine(z7f _ dec r2 w2 (N.below hB) O (by omega) (by omega)).mono ?_;rintro e w3 ⟨r3,rfl,V,D⟩;replace B:=B.below D;replace hB:=hB.trans (D.mono hB.size);clear D;by_cases J:r3<0
 ·go_wp2
  go_ret;exact⟨_,rfl,fun h=>by omega,hB⟩
 have Z:=V J;clear V
 go_wp2
 go_ret;exact⟨_,rfl,fun _=>by omega,hB⟩
theorem z8h(p p':InstQ)(w:World)(h:instK.rd w p)(h':instK.rd w p')(he:p.e=p'.e)(hl:InstQ.n p≤1048576):
  Calls Q 47 #[.agg #[.bool p.has,p.vb,p.vr,p.vd],.agg #[.bool p'.has,p'.vb,p'.vr,p'.vd]] w fun e w'=>e=.returned (.bool true)∧Below w.heap.size w w':=by
 obtain⟨has,vb,y,vr,d,vd,dec⟩:=p;obtain⟨af,Z,x,ab,c,aa,E⟩:=p';simp only[InstQ.e,InstE.mk.injEq]at he;obtain⟨ad,I,J,ae⟩:=he;dsimp only[InstQ.n]at hl;obtain⟨O,T,U⟩:txnK.At w vb y∧roundK.At w vr d∧intK.At w vd dec:=h;obtain⟨L,M,N⟩:txnK.At w Z x∧roundK.At w ab c∧intK.At w aa E:=h';subst ad;subst ae;have V:=fun w h1 h2=>z7d vb Z y x w h1 h2 I (by omega)
 have X:=fun w h1 h2=>q1b vr ab d c w h1 h2 J (by omega)
 have Y:=fun w h1 h2=>z7b vd aa dec w h1 h2 (by omega)
 obtain⟨a1,k1,rfl⟩:=O.shape;obtain⟨b1,m1,rfl⟩:=L.shape;obtain⟨a2,k2,rfl⟩:=T.shape;obtain⟨b2,m2,rfl⟩:=M.shape;obtain⟨a3,k3,rfl⟩:=U.shape;obtain⟨b3,m3,rfl⟩:=N.shape;have B:=(Vb w 64 #[.bool has,K a1 y.length k1,K a2 d.length k2,K a3 dec.length k3]).below (w':=(w.alloc (.cells #[.bool has,K a1 y.length k1,K a2 d.length k2,K a3 dec.length k3] 64)).alloc (.cells #[.bool has,K b1 x.length m1,K b2 c.length m2,K b3 dec.length m3] 64)) (by go_grown);have C:=Vb (w.alloc (.cells #[.bool has,K a1 y.length k1,K a2 d.length k2,K a3 dec.length k3] 64)) 64 #[.bool has,K b1 x.length m1,K b2 c.length m2,K b3 dec.length m3];have hB:Below w.heap.size w ((w.alloc (.cells #[.bool has,K a1 y.length k1,K a2 d.length k2,K a3 dec.length k3] 64)).alloc (.cells #[.bool has,K b1 x.length m1,K b2 c.length m2,K b3 dec.length m3] 64)):=by go_grown
 rw[World.size_alloc]at C;have n0:(has !=has)=false:=by simp
 clear I J;go_enter func47,ntmps47
 go_wp2_with fail
 generalize (w.alloc (.cells #[.bool has,K a1 y.length k1,K a2 d.length k2,K a3 dec.length k3] 64)).alloc (.cells #[.bool has,K b1 x.length m1,K b2 c.length m2,K b3 dec.length m3] 64)=W at*;refine(V W (O.below hB) (L.below hB)).mono ?_;rintro e w1 ⟨rfl,z⟩;replace B:=B.below z;replace C:=C.below z;replace hB:=hB.trans (z.mono hB.size);clear z V;have p2:=B.cell 2 _ rfl;have q2:=C.cell 2 _ rfl
 go_wp2_with fail
 clear p2 q2;refine(X w1 (T.below hB) (M.below hB)).mono ?_;rintro e w2 ⟨rfl,A⟩;replace B:=B.below A;replace C:=C.below A;replace hB:=hB.trans (A.mono hB.size);clear A X;have p3:=B.cell 3 _ rfl;have q3:=C.cell 3 _ rfl
 go_wp2_with fail
 clear p3 q3;refine(Y w2 (U.below hB) (N.below hB)).mono ?_;rintro e w3 ⟨rfl,D⟩;replace B:=B.below D;replace C:=C.below D;replace hB:=hB.trans (D.mono hB.size);clear D Y
 go_wp2
 go_ret;exact⟨rfl,hB⟩
theorem z8i(p:InstQ)(w:World)(h:instK.rd w p)(hl:InstQ.n p≤1048576):
  Calls Q 39 #[.agg #[.bool p.has,p.vb,p.vr,p.vd]] w fun e w'=>∃p':InstQ,e=.returned (.agg #[.bool p'.has,p'.vb,p'.vr,p'.vd])∧p'.e=p.e∧instK.own w' p'∧(instK.foot p').Nodup∧(∀k∈instK.foot p',w.heap.size≤k)∧Below w.heap.size w w':=by
 obtain⟨has,vb,d,vr,c,vd,dec⟩:=p;dsimp only[InstQ.n]at hl;obtain⟨J,L,M⟩:txnK.At w vb d∧roundK.At w vr c∧intK.At w vd dec:=h;have N:=fun w h1=>z7e vb d w h1 (by omega)
 have O:=fun w h1=>q1c vr c w h1 (by omega)
 have T:=fun w h1=>z7a vd dec w h1 (by omega)
 obtain⟨a1,k1,rfl⟩:=J.shape;obtain⟨a2,k2,rfl⟩:=L.shape;obtain⟨a3,k3,rfl⟩:=M.shape;have B:=(Vb w 78 #[.bool has,K a1 d.length k1,K a2 c.length k2,K a3 dec.length k3]).below (w':=((w.alloc (.cells #[.bool has,K a1 d.length k1,K a2 c.length k2,K a3 dec.length k3] 78)).alloc (.cells #[.bool false,K none 0 0,K none 0 0,K none 0 0] 64)).alloc (.cells #[.bool has,K none 0 0,K none 0 0,K none 0 0] 64)) (by go_grown);have C:=(Vb (w.alloc (.cells #[.bool has,K a1 d.length k1,K a2 c.length k2,K a3 dec.length k3] 78)) 64 #[.bool false,K none 0 0,K none 0 0,K none 0 0]).below (w':=((w.alloc (.cells #[.bool has,K a1 d.length k1,K a2 c.length k2,K a3 dec.length k3] 78)).alloc (.cells #[.bool false,K none 0 0,K none 0 0,K none 0 0] 64)).alloc (.cells #[.bool has,K none 0 0,K none 0 0,K none 0 0] 64)) (by go_grown);have D:=Vb ((w.alloc (.cells #[.bool has,K a1 d.length k1,K a2 c.length k2,K a3 dec.length k3] 78)).alloc (.cells #[.bool false,K none 0 0,K none 0 0,K none 0 0] 64)) 64 #[.bool has,K none 0 0,K none 0 0,K none 0 0];have hB:Below w.heap.size w (((w.alloc (.cells #[.bool has,K a1 d.length k1,K a2 c.length k2,K a3 dec.length k3] 78)).alloc (.cells #[.bool false,K none 0 0,K none 0 0,K none 0 0] 64)).alloc (.cells #[.bool has,K none 0 0,K none 0 0,K none 0 0] 64)):=by go_grown
 simp only[World.size_alloc]at C D;have hS:w.heap.size+3≤(((w.alloc (.cells #[.bool has,K a1 d.length k1,K a2 c.length k2,K a3 dec.length k3] 78)).alloc (.cells #[.bool false,K none 0 0,K none 0 0,K none 0 0] 64)).alloc (.cells #[.bool has,K none 0 0,K none 0 0,K none 0 0] 64)).heap.size:=by simp only[World.size_alloc];omega
 go_enter func39,ntmps39
 go_wp2_with fail
 generalize ((w.alloc (.cells #[.bool has,K a1 d.length k1,K a2 c.length k2,K a3 dec.length k3] 78)).alloc (.cells #[.bool false,K none 0 0,K none 0 0,K none 0 0] 64)).alloc (.cells #[.bool has,K none 0 0,K none 0 0,K none 0 0] 64)=W at*;refine(N W (J.below hB)).mono ?_;rintro e y1 ⟨v1,q1,rfl,E1,O1,N1,G1,hb⟩;replace B:=B.below hb;replace C:=C.below hb;replace D:=D.below hb;replace hB:=hB.trans (hb.mono hB.size);have s1:=hb.size;obtain⟨x1,z1,rfl⟩:=O1.shape;clear hb N;have p2:=B.cell 2 _ rfl;have d1:=D.cell 1 _ rfl;have f1:=D.frozen 1
 go_wp2_with fail
 clear p2 d1 f1;have U1:=(Out.refl [w.heap.size+1,w.heap.size+1+1] y1).set (b:=w.heap.size+1+1) (j:=1) (u:=K x1 q1.length z1) (by simp);replace D:=D.set 1 (K x1 q1.length z1);replace B:=B.other (b':=w.heap.size+1+1) (by omega) 1 (K x1 q1.length z1);replace C:=C.other (b':=w.heap.size+1+1) (by omega) 1 (K x1 q1.length z1);replace hB:=hB.setCell (p:=⟨w.heap.size+1+1,1,none⟩) (by show w.heap.size≤w.heap.size+1+1;omega) (K x1 q1.length z1);simp only[pjE]at D;have t1:=U1.size;generalize y1.setCell ⟨w.heap.size+1+1,1,none⟩ (K x1 q1.length z1)=V1 at*;refine(O V1 (L.below hB)).mono ?_;rintro e y2 ⟨v2,q2,rfl,E2,O2,N2,G2,hb⟩;replace U1:=U1.call hb;replace B:=B.below hb;replace C:=C.below hb;replace D:=D.below hb;replace hB:=hB.trans (hb.mono hB.size);have s2:=hb.size;obtain⟨x2,z2,rfl⟩:=O2.shape;clear hb O;have p3:=B.cell 3 _ rfl;have d2:=D.cell 2 _ rfl;have f2:=D.frozen 2
 go_wp2_with fail
 clear p3 d2 f2;have U2:=(Out.refl [w.heap.size+1,w.heap.size+1+1] y2).set (b:=w.heap.size+1+1) (j:=2) (u:=K x2 q2.length z2) (by simp);replace U1:=U1.set (b:=w.heap.size+1+1) (j:=2) (u:=K x2 q2.length z2) (by simp);replace D:=D.set 2 (K x2 q2.length z2);replace B:=B.other (b':=w.heap.size+1+1) (by omega) 2 (K x2 q2.length z2);replace C:=C.other (b':=w.heap.size+1+1) (by omega) 2 (K x2 q2.length z2);replace hB:=hB.setCell (p:=⟨w.heap.size+1+1,2,none⟩) (by show w.heap.size≤w.heap.size+1+1;omega) (K x2 q2.length z2);simp only[pjE]at D;have t2:=U2.size;generalize y2.setCell ⟨w.heap.size+1+1,2,none⟩ (K x2 q2.length z2)=V2 at*;refine(T V2 (M.below hB)).mono ?_;rintro e y3 ⟨v3,rfl,O3,N3,G3,hb⟩;replace U1:=U1.call hb;replace U2:=U2.call hb;replace B:=B.below hb;replace C:=C.below hb;replace D:=D.below hb;replace hB:=hB.trans (hb.mono hB.size);have s3:=hb.size;obtain⟨x3,z3,rfl⟩:=O3.shape;clear hb T;clear B;have d0:=D.cell 0 _ rfl;have f0:=D.frozen 0;have c0:=C.cell 0 _ rfl;have g0:=C.frozen 0;have d1:=D.cell 1 _ rfl;have f1:=D.frozen 1;have c1:=C.cell 1 _ rfl;have g1:=C.frozen 1;have d2:=D.cell 2 _ rfl;have f2:=D.frozen 2;have c2:=C.cell 2 _ rfl;have g2:=C.frozen 2;have d3:=D.cell 3 _ rfl;have f3:=D.frozen 3;have c3:=C.cell 3 _ rfl;have g3:=C.frozen 3;have R:Hid (∀j u j' u' E I z A x y,instK.own (((((y3.setCell ⟨w.heap.size+1+1,j,none⟩ u).setCell ⟨w.heap.size+1,j',none⟩ u').setCell ⟨w.heap.size+1,E,none⟩ I).setCell ⟨w.heap.size+1,z,none⟩ A).setCell ⟨w.heap.size+1,x,none⟩ y) ⟨has,K x1 q1.length z1,q1,K x2 q2.length z2,q2,K x3 dec.length z3,dec⟩∧Below w.heap.size w (((((y3.setCell ⟨w.heap.size+1+1,j,none⟩ u).setCell ⟨w.heap.size+1,j',none⟩ u').setCell ⟨w.heap.size+1,E,none⟩ I).setCell ⟨w.heap.size+1,z,none⟩ A).setCell ⟨w.heap.size+1,x,none⟩ y)):=by
  intro j u j' u' E I z A x y;have X1:=(((((U1.set (b:=w.heap.size+1+1) (j:=j) (u:=u) (by simp)).set (b:=w.heap.size+1) (j:=j') (u:=u') (by simp)).set (b:=w.heap.size+1) (j:=E) (u:=I) (by simp)).set (b:=w.heap.size+1) (j:=z) (u:=A) (by simp)).set (b:=w.heap.size+1) (j:=x) (u:=y) (by simp))
  have X2:=(((((U2.set (b:=w.heap.size+1+1) (j:=j) (u:=u) (by simp)).set (b:=w.heap.size+1) (j:=j') (u:=u') (by simp)).set (b:=w.heap.size+1) (j:=E) (u:=I) (by simp)).set (b:=w.heap.size+1) (j:=z) (u:=A) (by simp)).set (b:=w.heap.size+1) (j:=x) (u:=y) (by simp))
  have X3:=((((((Out.refl [w.heap.size+1,w.heap.size+1+1] y3).set (b:=w.heap.size+1+1) (j:=j) (u:=u) (by simp)).set (b:=w.heap.size+1) (j:=j') (u:=u') (by simp)).set (b:=w.heap.size+1) (j:=E) (u:=I) (by simp)).set (b:=w.heap.size+1) (j:=z) (u:=A) (by simp)).set (b:=w.heap.size+1) (j:=x) (u:=y) (by simp))
  refine⟨⟨O1.out X1 (fun k hk=>?_),O2.out X2 (fun k hk=>?_),O3.out X3 (fun k hk=>?_)⟩,?_⟩
  ·have:=G1 k hk;simp only[List.mem_cons,List.not_mem_nil,or_false];omega
  ·have:=G2 k hk;simp only[List.mem_cons,List.not_mem_nil,or_false];omega
  ·have:=G3 k hk;simp only[List.mem_cons,List.not_mem_nil,or_false];omega
  ·exact(((((hB.setCell (p:=⟨w.heap.size+1+1,j,none⟩) (by show w.heap.size≤w.heap.size+1+1;omega) u).setCell (p:=⟨w.heap.size+1,j',none⟩) (by show w.heap.size≤w.heap.size+1;omega) u').setCell (p:=⟨w.heap.size+1,E,none⟩) (by show w.heap.size≤w.heap.size+1;omega) I).setCell (p:=⟨w.heap.size+1,z,none⟩) (by show w.heap.size≤w.heap.size+1;omega) A).setCell (p:=⟨w.heap.size+1,x,none⟩) (by show w.heap.size≤w.heap.size+1;omega) y)
 have R1:Hid ((instK.foot ⟨has,K x1 q1.length z1,q1,K x2 q2.length z2,q2,K x3 dec.length z3,dec⟩).Nodup∧(∀k∈instK.foot ⟨has,K x1 q1.length z1,q1,K x2 q2.length z2,q2,K x3 dec.length z3,dec⟩,w.heap.size≤k)):=by
  have L1:=O1.lt;have L2:=O2.lt;have L3:=O3.lt;have T1:=U1.size;have T2:=U2.size;refine⟨?_,?_⟩
  ·show List.Nodup (_++_);exact List.nodup_append.2 ⟨N1,List.nodup_append.2 ⟨N2,N3,z5i (m:=(V2).heap.size) (fun k hk=>by have:=L2 k hk;omega) (fun k hk=>by have:=G3 k hk;omega)⟩,z5i (m:=(V1).heap.size) (fun k hk=>by have:=L1 k hk;omega) (fun k hk=>by rcases List.mem_append.1 hk with hk|hk<;>first|(have:=G2 k hk;omega)|(have:=G3 k hk;omega))⟩
  ·exact(fun k hk=>by rcases List.mem_append.1 hk with hk|hk<;>first|(have:=G1 k hk;omega)|(rcases List.mem_append.1 hk with hk|hk<;>first|(have:=G2 k hk;omega)|(have:=G3 k hk;omega)))
 have R2:Hid (InstQ.e ⟨has,K x1 q1.length z1,q1,K x2 q2.length z2,q2,K x3 dec.length z3,dec⟩=InstQ.e ⟨has,K a1 d.length k1,d,K a2 c.length k2,c,K a3 dec.length k3,dec⟩):=show _=_ by simp only[InstQ.e,E1,E2]
 clear O1 N1 G1 O2 N2 G2 O3 N3 G3 U1 U2 E1 E2 hB C D J L M
 go_wp2
 exact bodyPost_ret (v:=.agg #[.bool has,K x1 q1.length z1,K x2 q2.length z2,K x3 dec.length z3]) (by simp[results,results39,go_sem,c0,c1,c2,c3]) rfl ⟨⟨has,K x1 q1.length z1,q1,K x2 q2.length z2,q2,K x3 dec.length z3,dec⟩,rfl,R2.out,(R.out _ _ _ _ _ _ _ _ _ _).1,R1.out.1,R1.out.2,(R.out _ _ _ _ _ _ _ _ _ _).2⟩
structure ItemD where
 key:Int
 val:Int
deriving DecidableEq
def z0c:ItemD:=⟨0,0⟩
def ItemD.cells(x:ItemD):List Value:=[F G x.key,F G x.val]
def z0h(xs:List ItemD):List Value:=xs.flatMap ItemD.cells
def ItemRow(w:World)(a:Option Addr)(xs:List ItemD):Prop:=Lies w a (z0h xs)
theorem z1i(xs:List ItemD):(z0h xs).length=xs.length*2:=by
 induction xs with
 |nil=>rfl
 |cons x xs ih=>simp only[z0h,List.flatMap_cons,List.length_append,List.length_cons]at ih⊢;rw[ih];simp[ItemD.cells];omega
theorem z2g(xs:List ItemD):∀ (i:Nat),i<xs.length→(z0h xs)[i*2]?=some (F G (xs.getD i z0c).key)∧(z0h xs)[i*2+1]?=some (F G (xs.getD i z0c).val):=by
 induction xs with
 |nil=>intro i h;simp at h
 |cons x xs ih=>
  intro i h
  cases i with
  |zero=>simp[z0h,ItemD.cells]
  |succ i=>
   have e:z0h (x::xs)=x.cells++z0h xs:=rfl;have hl:x.cells.length=2:=rfl;obtain⟨h1,h2⟩:=ih i (by simpa using h);rw[e,List.getElem?_append_right (by omega),List.getElem?_append_right (by omega),hl,show(i+1)*2-2=i*2 by omega,show(i+1)*2+1-2=i*2+1 by omega];simpa[List.getD]using⟨h1,h2⟩
theorem ItemRow.below{w w':World}{a:Option Addr}{xs:List ItemD}(h:ItemRow w a xs)(hb:Below w.heap.size w w'):ItemRow w' a xs:=Lies.below h hb
theorem ItemRow.at{w:World}{a:Option Addr}{xs:List ItemD}(h:ItemRow w a xs)(i:Nat)(hi:i<xs.length):
  ∃b off,a=some ⟨b,off,none⟩∧b<w.heap.size∧w.cell? ⟨b,off+i*2,none⟩=some (F G (xs.getD i z0c).key)∧w.cell? ⟨b,off+i*2+1,none⟩=some (F G (xs.getD i z0c).val):=by
 obtain⟨h1,h2⟩:=z2g xs i hi;rcases h with h|⟨b,off,ha,hlt,hc⟩
 ·have:=z1i xs;rw[h]at this;simp at this;omega
 ·exact⟨b,off,ha,hlt,hc _ _ h1,by rw[Nat.add_assoc];exact hc _ _ h2⟩
theorem z2h:(Q.info? 155).map (fun i=>(i.zero,i.size,i.bytes))=some (some (.agg #[F G 0,F G 0]),2,16):=by kernel_rfl
theorem q1d(k:Int)(y:Int)(w:World):
  Calls Q 160 #[.agg #[F G k,F G y]] w fun e w'=>e=.returned (.agg #[F G k,F G y])∧Below w.heap.size w w':=by
 go_enter func160,ntmps160
 go_wp2
 exact bodyPost_ret (v:=.agg #[F G k,F G y]) (by simp[results,results160,go_sem]) rfl ⟨rfl,by go_grown⟩
theorem q2a{w:World}{base e g cap n k:Nat}{zs ys:List Value}{v0 v1:Value}(ho:w.ownsRow base e 2 (K (some ⟨g,0,none⟩) n cap) n (z67 zs ys (k*2)))
  (hl:ys.length=zs.length) (hz:zs.length=n*2) (hk:k<n) (g0:zs[k*2]?=some v0) (g1:zs[k*2+1]?=some v1):
  ((w.setCell ⟨g,k*2,none⟩ v0).setCell ⟨g,k*2+1,none⟩ v1).ownsRow base e 2 (K (some ⟨g,0,none⟩) n cap) n (z67 zs ys ((k+1)*2))∧
  (w.frozen? ⟨g,k*2,none⟩=false∧w.frozen? ⟨g,k*2+1,none⟩=false)∧
  ((∃u,w.cell? ⟨g,k*2,none⟩=some u)∧(∃u,w.cell? ⟨g,k*2+1,none⟩=some u))∧
  (∀B a,Below B a w→B≤g→Below B a ((w.setCell ⟨g,k*2,none⟩ v0).setCell ⟨g,k*2+1,none⟩ v1)):=by
 have hc:∀j,j<n*2→∃u,w.cell? ⟨g,j,none⟩=some u:=fun j hj=>by
  rw[ho.cellAt j hj];exact⟨_,List.getElem?_eq_getElem (by rw[ho.1];exact hj)⟩
 have s0:=(ho.stored (k*2) v0).1;rw[z1E _ _ _ _ hl g0]at s0;have s1:=(s0.stored (k*2+1) v1).1;rw[z1E _ _ _ _ hl g1,show k*2+1+1=(k+1)*2 by omega]at s1;exact⟨s1,⟨ho.frozenAt _,ho.frozenAt _⟩,⟨hc _ (by omega),hc _ (by omega)⟩,fun B a h hB=>((h.setCell hB _).setCell hB _)⟩
theorem z9q(a:Option Addr)(cap:Nat)(zs:List ItemD)(w:World)(h:ItemRow w a zs)(hl:zs.length≤1048576):
  Calls Q 122 #[K a zs.length cap] w fun e w'=>∃g c,e=.returned (K (some ⟨g,0,none⟩) zs.length c)∧
   w'.ownsRow w.heap.size 155 2 (K (some ⟨g,0,none⟩) zs.length c) zs.length (z0h zs)∧Below w.heap.size w w':=by
 obtain⟨i0,hi,W,X,Y⟩:=info_parts z2h;have y:i0.bytes*zs.length≤281474976710656:=by rw[Y];omega
 have M:zs.length≤maxLen:=by unfold maxLen;omega
 have D:=z1i zs;go_enter func122,ntmps122
 go_wp2_with (at_make;refine wpList_make_full _ rfl _ _ 52 rfl w.heap.size 155 i0 (.agg #[F G 0,F G 0]) 2 Tryz.underlying52 hi W X _ _ _ _ zs.length rfl rfl rfl rfl y M (f _) ?_)
 intro w1 x E;have d:(madeCells #[Value.int .i64 0,F G 0] (zs.length*2)).toList.length=(z0h zs).length:=by simp[size_madeCells,D]
 have O:Below w.heap.size w w1:=(Below.refl _ _).grown E (f _) (by simp);generalize (madeCells #[Value.int .i64 0,F G 0] (zs.length*2)).toList=ys at x d;rw[←z15 (z0h zs) ys]at x
 go_wp2
 go_loopw[4] (fun i wr=>∃k:Nat,k≤zs.length∧i=F G k∧wr.ownsRow w.heap.size 155 2 (K (some ⟨w.heap.size,0,none⟩) zs.length zs.length) zs.length (z67 (z0h zs) ys (k*2))∧Below w.heap.size w wr) (fun i _=>zs.length-(intOf i).toNat)
 case atStart=>exact⟨0,Va _,rfl,by simpa using x,O⟩
 case round=>
  obtain⟨k,hk,rfl,ho,hb⟩:=hrel;by_cases I:k<zs.length
  ·obtain⟨b,aa,rfl,Z,J,L⟩:=(h.below hb).at k I;obtain⟨g0,g1⟩:=z2g zs k I;generalize zs.getD k z0c=z at J L g0 g1
   go_wp2_with fail
   refine(q1d _ _ _).mono ?_;rintro e w2 ⟨rfl,C⟩;replace ho:=z0d ho C;replace hb:=hb.trans (C.mono hb.size);clear J L C;obtain⟨N,U,T,A⟩:=q2a ho d D I g0 g1;obtain⟨f0,f1⟩:=U;obtain⟨⟨u0,e0⟩,⟨u1,e1⟩⟩:=T;have R:Hid (_∧_):=⟨N,A _ _ hb (f _)⟩
   clear N A g0 g1 ho
   go_wp2
   go_roundw
   case rel=>exact⟨k+1,by omega,by go_num,R.out.1,R.out.2⟩
   case measure=>simp[intOf];omega
  ·go_wp2
   go_ret;have V:k=zs.length:=by omega
   subst V;rw[z2V _ _ _ d D]at ho;exact⟨_,_,rfl,ho,hb⟩
theorem z9r(k:Int)(y:Int)(w:World):
  Calls Q 189 #[.agg #[F G k,F G y],.agg #[F G k,F G y]] w fun e w'=>e=.returned (.bool true)∧Below w.heap.size w w':=by
 have h0:(k !=k)=false:=by simp
 have h1:(y !=y)=false:=by simp
 go_enter func189,ntmps189
 go_wp2
 go_ret;exact⟨rfl,by go_grown⟩
theorem z8j(a a':Option Addr)(cap A:Nat)(zs:List ItemD)(w:World)(h:ItemRow w a zs)(h':ItemRow w a' zs)(hl:zs.length≤1099511627776):
  Calls Q 144 #[K a zs.length cap,K a' zs.length A] w fun e w'=>e=.returned (.bool true)∧Below w.heap.size w w':=by
 go_enter func144,ntmps144
 go_wp2
 go_loopw[5] (fun i wr=>∃k:Nat,k≤zs.length∧i=F G k∧Below w.heap.size w wr) (fun i _=>zs.length-(intOf i).toNat)
 case atStart=>exact⟨0,Va _,rfl,Below.refl _ _⟩
 case round=>
  obtain⟨k,hk,rfl,hb⟩:=hrel;by_cases D:k<zs.length
  ·obtain⟨b,M,rfl,L,c,d⟩:=(h.below hb).at k D;obtain⟨b',J,rfl,I,x,y⟩:=(h'.below hb).at k D;generalize zs.getD k z0c=z at c d x y;obtain⟨z0,z1⟩:=z;have k0:=z0a c;have l0:=z0a x;have k1:=z0a d;have l1:=z0a y;clear c d x y;have hW:Below wr.heap.size wr wr.drew:=(Below.refl _ _).drew;have E:Nonempty (Lat wr):=⟨⟨wr,Below.refl _ _⟩⟩
   go_wp2_with fail
   refine z0b (S:=fun w'=>∃u:Lat wr,w'=u.val) (by kernel_rfl) ?_;refine sgr [(0,8)] 2 (by kernel_rfl) ⟨⟨_,hW⟩,rfl⟩ ?_;simp only[pkE];repeat go_big_quiet_step (fail)
   refine wpQuiet_nil ?_;refine cla 8 (some 25) 189 #[.agg #[F G z0,F G z1],.agg #[F G z0,F G z1]] 1 (by kernel_rfl) ?_;refine(z9r _ _ _).mono ?_;rintro e w2 ⟨rfl,C⟩;replace hW:=hW.trans (C.mono hW.size);clear C;refine⟨_,rfl,⟨⟨_,hW⟩,rfl⟩,?_⟩;simp only[Act.put,pjE];refine sgr [(9,1)] 0 (by kernel_rfl) ⟨⟨_,hW⟩,rfl⟩ ?_;simp only[pkE];repeat go_big_quiet_step (fail)
   refine wpQuiet_nil ?_;refine z0g (by kernel_rfl) ?_;replace hb:=hb.trans (hW.mono hb.size);clear k0 l0 k1 l1 hW E
   go_wp2
   go_roundw
   case rel=>exact⟨k+1,by omega,by go_num,hb⟩
   case measure=>simp[intOf];omega
  ·go_wp2
   go_ret;exact⟨rfl,hb⟩
theorem q2b{w wr:World}{g k:Nat}{v0 v1:Value}(h:w.grownBy wr (some g)):w.grownBy ((wr.setCell ⟨g,k,none⟩ v0).setCell ⟨g,k+1,none⟩ v1) (some g):=by
 have one:∀ (u:World) (j:Nat) (v:Value),w.grownBy u (some g)→w.grownBy (u.setCell ⟨g,j,none⟩ v) (some g):=fun u j v h=>
  ⟨h.os,h.tape,h.output,by simpa[World.setCell]using h.size,fun i hi hne=>by rw[Below.heap_setCell _ _ _ _ (by intro e;apply hne;simp[e])];exact h.block i hi hne⟩
 exact(one _ _ _ (one _ _ _ h))
def z0N(c:Int)(n:Nat):List ItemD:=(List.range n).map fun(i:Nat)=>⟨c+((i*2:Nat):Int),c+((i*2+1:Nat):Int)⟩
theorem z02(c:Int)(n:Nat):(z0N c n).length=n:=by simp[z0N]
theorem z3q(c:Int)(n i:Nat)(h:i<n):(z0N c n).getD i z0c=⟨c+((i*2:Nat):Int),c+((i*2+1:Nat):Int)⟩:=by simp[z0N,List.getD,h]
theorem z7g(base:Nat)(v:Value)(n:Nat)(xs:List Value)(c:Int)(w:World)(h:w.ownsRow base 155 2 v n xs)(hn:n≤1099511627776)(h0:0≤c)(h1:c≤1099511627776):
  Calls Q 52 #[v,F G c] w fun e w'=>e=.returned (F G (c+((n*2:Nat):Int)))∧w'.ownsRow base 155 2 v n (z0h (z0N c n))∧w.grownBy w' v.ownBlock:=by
 rcases h.2 with⟨rfl,rfl⟩|⟨g,cap,L,rfl,hb,hg,r⟩
 ·go_enter func52,ntmps52
  go_wp2
  refine wp_loop_rounds 1 ?_;rw[rounds_succ]
  go_wp2
  go_ret;exact⟨by simp,World.ownsRow_nil _ _ _ _,World.grownBy.refl _ _⟩
 ·clear hg r;have d:=z1i (z0N c n);rw[z02]at d;have I:xs.length=(z0h (z0N c n)).length:=by rw[d];exact h.1
  rw[←z15 (z0h (z0N c n)) xs]at h;go_enter func52,ntmps52
  go_wp2
  go_loopw[1,5] (fun j i wr=>∃k:Nat,k≤n∧j=F G (c+((k*2:Nat):Int))∧i=F G k∧wr.ownsRow base 155 2 (K (some ⟨g,0,none⟩) n cap) n (z67 (z0h (z0N c n)) xs (k*2))∧w.grownBy wr (some g)) (fun _ i _=>n-(intOf i).toNat)
  case atStart=>exact⟨0,Va _,by simp,rfl,by simpa using h,World.grownBy.refl _ _⟩
  case round=>
   obtain⟨k,hk,rfl,rfl,ho,z⟩:=hrel;by_cases A:k<n
   ·obtain⟨g0,g1⟩:=z2g (z0N c n) k (by rw[z02];exact A);rw[z3q _ _ _ A]at g0 g1;obtain⟨E,⟨f0,f1⟩,⟨⟨u0,e0⟩,⟨u1,e1⟩⟩,_⟩:=q2a ho I d A g0 g1;have x:=q2b z (g:=g) (k:=k*2) (v0:=F G (c+((k*2:Nat):Int))) (v1:=F G (c+((k*2+1:Nat):Int)));have R:Hid (_∧_):=⟨E,x⟩
    have C:c+((k*2+1:Nat):Int)=c+((k*2:Nat):Int)+1:=by omega
    have D:Hid (c+(((k+1)*2:Nat):Int)=c+((k*2:Nat):Int)+1+1):=show _=_ by omega
    rw[C]at R;clear E x g0 g1 ho z C;generalize hy:((k*2:Nat):Int)=y at R D;have N:y≤2199023255552:=by omega
    have M:0≤y:=by omega
    clear hy
    go_wp2
    go_roundw
    case rel=>exact⟨k+1,by omega,by rw[D.out],by go_num,R.out.1,R.out.2⟩
    case measure=>simp[intOf];omega
   ·go_wp2
    go_ret;have J:k=n:=by omega
    subst J;rw[z2V _ _ _ I d]at ho;exact⟨rfl,ho,z⟩
theorem z6o(a:Option Addr)(n cap:Nat)(c:Int)(w:World)(h:ItemRow w a (z0N c n))(hn:n≤1099511627776)(h0:0≤c)(h1:c≤1099511627776):
  Calls Q 98 #[K a n cap,F G c] w fun e w'=>e=.returned (F G (c+((n*2:Nat):Int)))∧w'=w:=by
 go_enter func98,ntmps98
 go_wp2
 go_loop[1,5] (fun j i=>∃k:Nat,k≤n∧j=F G (c+((k*2:Nat):Int))∧i=F G k) (fun _ i=>n-(intOf i).toNat)
 case atStart=>exact⟨0,Va _,by simp,rfl⟩
 case round=>
  obtain⟨k,hk,rfl,rfl⟩:=hrel;by_cases C:k<n
  ·obtain⟨b,L,rfl,E,x,d⟩:=h.at k (by rw[z02];exact C);rw[z3q _ _ _ C]at x d;have z:c+((k*2+1:Nat):Int)=c+((k*2:Nat):Int)+1:=by omega
   have A:Hid (c+(((k+1)*2:Nat):Int)=c+((k*2:Nat):Int)+1+1):=show _=_ by omega
   dsimp only at x d;rw[z]at d;clear z;generalize hy:((k*2:Nat):Int)=y at x d A;have J:y≤2199023255552:=by omega
   have I:0≤y:=by omega
   clear hy
   go_wp2
   go_round
   case rel=>exact⟨k+1,by omega,by rw[A.out],by go_num⟩
   case measure=>simp[intOf];omega
  ·go_wp2
   go_ret;have D:k=n:=by omega
   subst D;exact⟨rfl,rfl⟩
theorem z9s(a:Option Addr)(n cap:Nat)(c:Int)(w:World)(hn:n≤9223372036854775807)(h0:0≤c)(h1:c≤1099511627776):
  Calls Q 102 #[K a n cap,F G c] w fun e w'=>e=.returned (F G (if c-n<0 then -1 else c-n))∧w'=w:=by
 by_cases h:c-n<0
 ·rw[if_pos h];go_enter func102,ntmps102
  go_wp2
  go_ret;exact⟨rfl,rfl⟩
 ·rw[if_neg h];go_enter func102,ntmps102
  go_wp2
  go_ret;exact⟨rfl,rfl⟩
structure UndoD where
 key:Int
 was:Bool
 val:Int
deriving DecidableEq
def z0j:UndoD:=⟨0,false,0⟩
def UndoD.cells(x:UndoD):List Value:=[F G x.key,.bool x.was,F G x.val]
def z0o(xs:List UndoD):List Value:=xs.flatMap UndoD.cells
def UndoRow(w:World)(a:Option Addr)(xs:List UndoD):Prop:=Lies w a (z0o xs)
theorem z1J(xs:List UndoD):(z0o xs).length=xs.length*3:=by
 induction xs with
 |nil=>rfl
 |cons x xs ih=>simp only[z0o,List.flatMap_cons,List.length_append,List.length_cons]at ih⊢;rw[ih];simp[UndoD.cells];omega
theorem z2i(xs:List UndoD):∀ (i:Nat),i<xs.length→(z0o xs)[i*3]?=some (F G (xs.getD i z0j).key)∧(z0o xs)[i*3+1]?=some (.bool (xs.getD i z0j).was)∧(z0o xs)[i*3+2]?=some (F G (xs.getD i z0j).val):=by
 induction xs with
 |nil=>intro i h;simp at h
 |cons x xs ih=>
  intro i h
  cases i with
  |zero=>simp[z0o,UndoD.cells]
  |succ i=>
   have e:z0o (x::xs)=x.cells++z0o xs:=rfl;have hl:x.cells.length=3:=rfl;obtain⟨h1,h2,h3⟩:=ih i (by simpa using h);rw[e,List.getElem?_append_right (by omega),List.getElem?_append_right (by omega),List.getElem?_append_right (by omega),hl,show(i+1)*3-3=i*3 by omega,show(i+1)*3+1-3=i*3+1 by omega,show(i+1)*3+2-3=i*3+2 by omega];simpa[List.getD]using⟨h1,h2,h3⟩
theorem UndoRow.below{w w':World}{a:Option Addr}{xs:List UndoD}(h:UndoRow w a xs)(hb:Below w.heap.size w w'):UndoRow w' a xs:=Lies.below h hb
theorem UndoRow.at{w:World}{a:Option Addr}{xs:List UndoD}(h:UndoRow w a xs)(i:Nat)(hi:i<xs.length):
  ∃b off,a=some ⟨b,off,none⟩∧b<w.heap.size∧w.cell? ⟨b,off+i*3,none⟩=some (F G (xs.getD i z0j).key)∧w.cell? ⟨b,off+i*3+1,none⟩=some (.bool (xs.getD i z0j).was)∧w.cell? ⟨b,off+i*3+2,none⟩=some (F G (xs.getD i z0j).val):=by
 obtain⟨h1,h2,h3⟩:=z2i xs i hi;rcases h with h|⟨b,off,ha,hlt,hc⟩
 ·have:=z1J xs;rw[h]at this;simp at this;omega
 ·exact⟨b,off,ha,hlt,hc _ _ h1,by rw[Nat.add_assoc];exact hc _ _ h2,by rw[Nat.add_assoc];exact hc _ _ h3⟩
theorem z5j:(Q.info? 194).map (fun i=>(i.zero,i.size,i.bytes))=some (some (.agg #[F G 0,.bool false,F G 0]),3,24):=by kernel_rfl
theorem q1e(k:Int)(y:Bool)(v:Int)(w:World):
  Calls Q 197 #[.agg #[F G k,.bool y,F G v]] w fun e w'=>e=.returned (.agg #[F G k,.bool y,F G v])∧Below w.heap.size w w':=by
 go_enter func197,ntmps197
 go_wp2
 exact bodyPost_ret (v:=.agg #[F G k,.bool y,F G v]) (by simp[results,results197,go_sem]) rfl ⟨rfl,by go_grown⟩
theorem q2c{w:World}{base e g cap n k:Nat}{zs ys:List Value}{v0 v1 v2:Value}(ho:w.ownsRow base e 3 (K (some ⟨g,0,none⟩) n cap) n (z67 zs ys (k*3)))
  (hl:ys.length=zs.length) (hz:zs.length=n*3) (hk:k<n) (g0:zs[k*3]?=some v0) (g1:zs[k*3+1]?=some v1) (g2:zs[k*3+2]?=some v2):
  (((w.setCell ⟨g,k*3,none⟩ v0).setCell ⟨g,k*3+1,none⟩ v1).setCell ⟨g,k*3+2,none⟩ v2).ownsRow base e 3 (K (some ⟨g,0,none⟩) n cap) n (z67 zs ys ((k+1)*3))∧
  (w.frozen? ⟨g,k*3,none⟩=false∧w.frozen? ⟨g,k*3+1,none⟩=false∧w.frozen? ⟨g,k*3+2,none⟩=false)∧
  ((∃u,w.cell? ⟨g,k*3,none⟩=some u)∧(∃u,w.cell? ⟨g,k*3+1,none⟩=some u)∧(∃u,w.cell? ⟨g,k*3+2,none⟩=some u))∧
  (∀B a,Below B a w→B≤g→Below B a (((w.setCell ⟨g,k*3,none⟩ v0).setCell ⟨g,k*3+1,none⟩ v1).setCell ⟨g,k*3+2,none⟩ v2)):=by
 have hc:∀j,j<n*3→∃u,w.cell? ⟨g,j,none⟩=some u:=fun j hj=>by
  rw[ho.cellAt j hj];exact⟨_,List.getElem?_eq_getElem (by rw[ho.1];exact hj)⟩
 have s0:=(ho.stored (k*3) v0).1;rw[z1E _ _ _ _ hl g0]at s0;have s1:=(s0.stored (k*3+1) v1).1;rw[z1E _ _ _ _ hl g1]at s1;have s2:=(s1.stored (k*3+2) v2).1;rw[z1E _ _ _ _ hl g2,show k*3+2+1=(k+1)*3 by omega]at s2;exact⟨s2,⟨ho.frozenAt _,ho.frozenAt _,ho.frozenAt _⟩,⟨hc _ (by omega),hc _ (by omega),hc _ (by omega)⟩,fun B a h hB=>(((h.setCell hB _).setCell hB _).setCell hB _)⟩
theorem z9t(a:Option Addr)(cap:Nat)(zs:List UndoD)(w:World)(h:UndoRow w a zs)(hl:zs.length≤1048576):
  Calls Q 161 #[K a zs.length cap] w fun e w'=>∃g c,e=.returned (K (some ⟨g,0,none⟩) zs.length c)∧
   w'.ownsRow w.heap.size 194 3 (K (some ⟨g,0,none⟩) zs.length c) zs.length (z0o zs)∧Below w.heap.size w w':=by
 obtain⟨i0,hi,X,Y,Z⟩:=info_parts z5j;have y:i0.bytes*zs.length≤281474976710656:=by rw[Z];omega
 have N:zs.length≤maxLen:=by unfold maxLen;omega
 have D:=z1J zs;go_enter func161,ntmps161
 go_wp2_with (at_make;refine wpList_make_full _ rfl _ _ 157 rfl w.heap.size 194 i0 (.agg #[F G 0,.bool false,F G 0]) 3 Tryz.underlying157 hi X Y _ _ _ _ zs.length rfl rfl rfl rfl y N (f _) ?_)
 intro w1 x E;have d:(madeCells #[Value.int .i64 0,.bool false,F G 0] (zs.length*3)).toList.length=(z0o zs).length:=by simp[size_madeCells,D]
 have T:Below w.heap.size w w1:=(Below.refl _ _).grown E (f _) (by simp);generalize (madeCells #[Value.int .i64 0,.bool false,F G 0] (zs.length*3)).toList=ys at x d;rw[←z15 (z0o zs) ys]at x
 go_wp2
 go_loopw[4] (fun i wr=>∃k:Nat,k≤zs.length∧i=F G k∧wr.ownsRow w.heap.size 194 3 (K (some ⟨w.heap.size,0,none⟩) zs.length zs.length) zs.length (z67 (z0o zs) ys (k*3))∧Below w.heap.size w wr) (fun i _=>zs.length-(intOf i).toNat)
 case atStart=>exact⟨0,Va _,rfl,by simpa using x,T⟩
 case round=>
  obtain⟨k,hk,rfl,ho,hb⟩:=hrel;by_cases I:k<zs.length
  ·obtain⟨b,ab,rfl,aa,J,L,M⟩:=(h.below hb).at k I;obtain⟨g0,g1,g2⟩:=z2i zs k I;generalize zs.getD k z0j=z at J L M g0 g1 g2
   go_wp2_with fail
   refine(q1e _ _ _ _).mono ?_;rintro e w2 ⟨rfl,C⟩;replace ho:=z0d ho C;replace hb:=hb.trans (C.mono hb.size);clear J L M C;obtain⟨O,V,U,A⟩:=q2c ho d D I g0 g1 g2;obtain⟨f0,f1,f2⟩:=V;obtain⟨⟨u0,e0⟩,⟨u1,e1⟩,⟨u2,e2⟩⟩:=U;have R:Hid (_∧_):=⟨O,A _ _ hb (f _)⟩
   clear O A g0 g1 g2 ho
   go_wp2
   go_roundw
   case rel=>exact⟨k+1,by omega,by go_num,R.out.1,R.out.2⟩
   case measure=>simp[intOf];omega
  ·go_wp2
   go_ret;have W:k=zs.length:=by omega
   subst W;rw[z2V _ _ _ d D]at ho;exact⟨_,_,rfl,ho,hb⟩
theorem z9u(k:Int)(y:Bool)(v:Int)(w:World):
  Calls Q 215 #[.agg #[F G k,.bool y,F G v],.agg #[F G k,.bool y,F G v]] w fun e w'=>e=.returned (.bool true)∧Below w.heap.size w w':=by
 have h0:(k !=k)=false:=by simp
 have h1:(y !=y)=false:=by simp
 have h2:(v !=v)=false:=by simp
 go_enter func215,ntmps215
 go_wp2
 go_ret;exact⟨rfl,by go_grown⟩
theorem z8k(a a':Option Addr)(cap D:Nat)(zs:List UndoD)(w:World)(h:UndoRow w a zs)(h':UndoRow w a' zs)(hl:zs.length≤1099511627776):
  Calls Q 190 #[K a zs.length cap,K a' zs.length D] w fun e w'=>e=.returned (.bool true)∧Below w.heap.size w w':=by
 go_enter func190,ntmps190
 go_wp2
 go_loopw[5] (fun i wr=>∃k:Nat,k≤zs.length∧i=F G k∧Below w.heap.size w wr) (fun i _=>zs.length-(intOf i).toNat)
 case atStart=>exact⟨0,Va _,rfl,Below.refl _ _⟩
 case round=>
  obtain⟨k,hk,rfl,hb⟩:=hrel;by_cases I:k<zs.length
  ·obtain⟨b,O,rfl,N,c,d,x⟩:=(h.below hb).at k I;obtain⟨b',M,rfl,L,y,A,C⟩:=(h'.below hb).at k I;generalize zs.getD k z0j=z at c d x y A C;obtain⟨z0,z1,z2⟩:=z;have k0:=z0a c;have l0:=z0a y;have k1:=z0a d;have l1:=z0a A;have k2:=z0a x;have l2:=z0a C;clear c d x y A C;have hW:Below wr.heap.size wr wr.drew:=(Below.refl _ _).drew;have J:Nonempty (Lat wr):=⟨⟨wr,Below.refl _ _⟩⟩
   go_wp2_with fail
   refine z0b (S:=fun w'=>∃u:Lat wr,w'=u.val) (by kernel_rfl) ?_;refine sgr [(0,8)] 2 (by kernel_rfl) ⟨⟨_,hW⟩,rfl⟩ ?_;simp only[pkE];repeat go_big_quiet_step (fail)
   refine wpQuiet_nil ?_;refine cla 8 (some 25) 215 #[.agg #[F G z0,.bool z1,F G z2],.agg #[F G z0,.bool z1,F G z2]] 1 (by kernel_rfl) ?_;refine(z9u _ _ _ _).mono ?_;rintro e w2 ⟨rfl,E⟩;replace hW:=hW.trans (E.mono hW.size);clear E;refine⟨_,rfl,⟨⟨_,hW⟩,rfl⟩,?_⟩;simp only[Act.put,pjE];refine sgr [(9,1)] 0 (by kernel_rfl) ⟨⟨_,hW⟩,rfl⟩ ?_;simp only[pkE];repeat go_big_quiet_step (fail)
   refine wpQuiet_nil ?_;refine z0g (by kernel_rfl) ?_;replace hb:=hb.trans (hW.mono hb.size);clear k0 l0 k1 l1 k2 l2 hW J
   go_wp2
   go_roundw
   case rel=>exact⟨k+1,by omega,by go_num,hb⟩
   case measure=>simp[intOf];omega
  ·go_wp2
   go_ret;exact⟨rfl,hb⟩
theorem q2d{w wr:World}{g k:Nat}{v0 v1 v2:Value}(h:w.grownBy wr (some g)):w.grownBy (((wr.setCell ⟨g,k,none⟩ v0).setCell ⟨g,k+1,none⟩ v1).setCell ⟨g,k+2,none⟩ v2) (some g):=by
 have one:∀ (u:World) (j:Nat) (v:Value),w.grownBy u (some g)→w.grownBy (u.setCell ⟨g,j,none⟩ v) (some g):=fun u j v h=>
  ⟨h.os,h.tape,h.output,by simpa[World.setCell]using h.size,fun i hi hne=>by rw[Below.heap_setCell _ _ _ _ (by intro e;apply hne;simp[e])];exact h.block i hi hne⟩
 exact(one _ _ _ (one _ _ _ (one _ _ _ h)))
def z0V(c:Int)(n:Nat):List UndoD:=(List.range n).map fun(i:Nat)=>⟨c+((i*3:Nat):Int),((c+((i*3+1:Nat):Int)) % 3==0),c+((i*3+2:Nat):Int)⟩
theorem z03(c:Int)(n:Nat):(z0V c n).length=n:=by simp[z0V]
theorem z3r(c:Int)(n i:Nat)(h:i<n):(z0V c n).getD i z0j=⟨c+((i*3:Nat):Int),((c+((i*3+1:Nat):Int)) % 3==0),c+((i*3+2:Nat):Int)⟩:=by simp[z0V,List.getD,h]
theorem z7h(base:Nat)(v:Value)(n:Nat)(xs:List Value)(c:Int)(w:World)(h:w.ownsRow base 194 3 v n xs)(hn:n≤1099511627776)(h0:0≤c)(h1:c≤1099511627776):
  Calls Q 94 #[v,F G c] w fun e w'=>e=.returned (F G (c+((n*3:Nat):Int)))∧w'.ownsRow base 194 3 v n (z0o (z0V c n))∧w.grownBy w' v.ownBlock:=by
 rcases h.2 with⟨rfl,rfl⟩|⟨g,cap,M,rfl,hb,hg,r⟩
 ·go_enter func94,ntmps94
  go_wp2
  refine wp_loop_rounds 1 ?_;rw[rounds_succ]
  go_wp2
  go_ret;exact⟨by simp,World.ownsRow_nil _ _ _ _,World.grownBy.refl _ _⟩
 ·clear hg r;have d:=z1J (z0V c n);rw[z03]at d;have J:xs.length=(z0o (z0V c n)).length:=by rw[d];exact h.1
  rw[←z15 (z0o (z0V c n)) xs]at h;go_enter func94,ntmps94
  go_wp2
  go_loopw[1,5] (fun j i wr=>∃k:Nat,k≤n∧j=F G (c+((k*3:Nat):Int))∧i=F G k∧wr.ownsRow base 194 3 (K (some ⟨g,0,none⟩) n cap) n (z67 (z0o (z0V c n)) xs (k*3))∧w.grownBy wr (some g)) (fun _ i _=>n-(intOf i).toNat)
  case atStart=>exact⟨0,Va _,by simp,rfl,by simpa using h,World.grownBy.refl _ _⟩
  case round=>
   obtain⟨k,hk,rfl,rfl,ho,z⟩:=hrel;by_cases A:k<n
   ·obtain⟨g0,g1,g2⟩:=z2i (z0V c n) k (by rw[z03];exact A);rw[z3r _ _ _ A]at g0 g1 g2;obtain⟨I,⟨f0,f1,f2⟩,⟨⟨u0,e0⟩,⟨u1,e1⟩,⟨u2,e2⟩⟩,_⟩:=q2c ho J d A g0 g1 g2;have x:=q2d z (g:=g) (k:=k*3) (v0:=F G (c+((k*3:Nat):Int))) (v1:=.bool (((c+((k*3+1:Nat):Int)) % 3==0))) (v2:=F G (c+((k*3+2:Nat):Int)));have R:Hid (_∧_):=⟨I,x⟩
    have C:c+((k*3+1:Nat):Int)=c+((k*3:Nat):Int)+1:=by omega
    have D:c+((k*3+2:Nat):Int)=c+((k*3:Nat):Int)+1+1:=by omega
    have E:Hid (c+(((k+1)*3:Nat):Int)=c+((k*3:Nat):Int)+1+1+1):=show _=_ by omega
    rw[C,D]at R;clear I x g0 g1 g2 ho z C D;generalize hy:((k*3:Nat):Int)=y at R E;have O:y≤3298534883328:=by omega
    have N:0≤y:=by omega
    clear hy
    go_wp2
    go_roundw
    case rel=>exact⟨k+1,by omega,by rw[E.out],by go_num,R.out.1,R.out.2⟩
    case measure=>simp[intOf];omega
   ·go_wp2
    go_ret;have L:k=n:=by omega
    subst L;rw[z2V _ _ _ J d]at ho;exact⟨rfl,ho,z⟩
theorem z6p(a:Option Addr)(n cap:Nat)(c:Int)(w:World)(h:UndoRow w a (z0V c n))(hn:n≤1099511627776)(h0:0≤c)(h1:c≤1099511627776):
  Calls Q 147 #[K a n cap,F G c] w fun e w'=>e=.returned (F G (c+((n*3:Nat):Int)))∧w'=w:=by
 go_enter func147,ntmps147
 go_wp2
 go_loop[1,5] (fun j i=>∃k:Nat,k≤n∧j=F G (c+((k*3:Nat):Int))∧i=F G k) (fun _ i=>n-(intOf i).toNat)
 case atStart=>exact⟨0,Va _,by simp,rfl⟩
 case round=>
  obtain⟨k,hk,rfl,rfl⟩:=hrel;by_cases E:k<n
  ·obtain⟨b,N,rfl,J,z,d,x⟩:=h.at k (by rw[z03];exact E);rw[z3r _ _ _ E]at z d x;have A:c+((k*3+1:Nat):Int)=c+((k*3:Nat):Int)+1:=by omega
   have C:c+((k*3+2:Nat):Int)=c+((k*3:Nat):Int)+1+1:=by omega
   have D:Hid (c+(((k+1)*3:Nat):Int)=c+((k*3:Nat):Int)+1+1+1):=show _=_ by omega
   dsimp only at z d x;rw[A]at d;rw[C]at x;clear A C;generalize hy:((k*3:Nat):Int)=y at z d x D;have M:y≤3298534883328:=by omega
   have L:0≤y:=by omega
   clear hy
   go_wp2
   go_round
   case rel=>exact⟨k+1,by omega,by rw[D.out],by go_num⟩
   case measure=>simp[intOf];omega
  ·go_wp2
   go_ret;have I:k=n:=by omega
   subst I;exact⟨rfl,rfl⟩
theorem z9v(a:Option Addr)(n cap:Nat)(c:Int)(w:World)(hn:n≤9223372036854775807)(h0:0≤c)(h1:c≤1099511627776):
  Calls Q 149 #[K a n cap,F G c] w fun e w'=>e=.returned (F G (if c-n<0 then -1 else c-n))∧w'=w:=by
 by_cases h:c-n<0
 ·rw[if_pos h];go_enter func149,ntmps149
  go_wp2
  go_ret;exact⟨rfl,rfl⟩
 ·rw[if_neg h];go_enter func149,ntmps149
  go_wp2
  go_ret;exact⟨rfl,rfl⟩
end Go.Proofs.YtdppipeclnldeaaGreatDoor

/- Texts joined,with what the laws reach alone. -/
import Derived.Test.YtlkpdgjnhkjpjaaGreatDoorSCAC
set_option linter.unusedVariables false
set_option linter.unusedSimpArgs false
set_option maxRecDepth 100000
set_option maxHeartbeats 4000000
namespace Go.Proofs.YtlkpdgjnhkjpjaaGreatDoor
open Go.RowKit Go.BigFrame
theorem z4O(zs:List Int):intK.row zs=zs.map (Value.int .i64):=by
 induction zs with
 |nil=>rfl
 |cons z r ih=>
  simp only[Kind.row,List.flatMap_cons,List.map_cons]at ih⊢;rw[ih];rfl
theorem z8P{w:World}{a:Option Addr}{zs:List Int}(h:Lies w a (zs.map (Value.int .i64))):Row .i64 w a zs:=by
 intro i hi;rcases h with h|⟨b,off,ha,hlt,hc⟩
 ·have:=congrArg List.length h;rw[List.length_map,List.length_nil]at this;omega
 ·exact⟨b,off,ha,hlt,hc i _ (by simp[List.getD,hi])⟩
theorem z5d{w:World}{a:Option Addr}{zs:List Int}(h:Row .i64 w a zs):Lies w a (zs.map (Value.int .i64)):=by
 by_cases h0:zs=[]
 ·left;simp[h0]
 ·obtain⟨b,off,ha,hlt,_⟩:=h 0 (List.length_pos_iff.2 h0);right;refine⟨b,off,ha,hlt,fun i x hx=>?_⟩;have hi:i<zs.length:=by
   have:=(List.getElem?_eq_some_iff.1 hx).1;simpa using this
  obtain⟨b',off',ha',_,hc⟩:=h i hi;rw[ha]at ha';simp only[Option.some.injEq,Addr.mk.injEq,and_true]at ha';obtain⟨rfl,rfl⟩:=ha';rw[hc];simp[hi]at hx;rw[←hx];simp[List.getD,hi]
theorem z0Y{w:World}{a:Option Addr}{n cap:Nat}{zs:List Int}(h:intK.At w (.slice a n cap) zs):n=zs.length∧Row .i64 w a zs:=by
 obtain⟨a',c,e,hl,_⟩:=h;simp only[Value.slice.injEq]at e;obtain⟨rfl,rfl,_⟩:=e;rw[z4O]at hl;exact⟨rfl,z8P hl⟩
theorem z0T{w:World}{a:Option Addr}{n cap:Nat}{zs:List ActD}(h:actK.At w (.slice a n cap) zs):n=zs.length∧ActRow w a zs:=by
 obtain⟨a',c,e,hl,_⟩:=h;simp only[Value.slice.injEq]at e;obtain⟨rfl,rfl,_⟩:=e;exact⟨rfl,hl⟩
theorem q4a{w:World}{a:Option Addr}{cap:Nat}{zs:List ActD}(h:ActRow w a zs):actK.At w (.slice a zs.length cap) zs:=⟨a,cap,rfl,h,fun _ _=>trivial⟩
theorem z3T(v:Value)(zs:List Int):intK.fp v zs=blk v:=by
 have:zs.flatMap intK.foot=[]:=by rw[List.flatMap_eq_nil_iff];intro _ _;rfl
 simp[Kind.fp,this]
theorem z03(v:Value)(zs:List ActD):actK.fp v zs=blk v:=by
 have:zs.flatMap actK.foot=[]:=by rw[List.flatMap_eq_nil_iff];intro _ _;rfl
 simp[Kind.fp,this]
theorem z0r(v:Value):(blk v).Nodup:=by unfold blk;cases v.ownBlock<;>simp
theorem z0u{w:World}{base e s n:Nat}{v:Value}{xs:List Value}(h:w.ownsRow base e s v n xs):w.ownsRow 0 e s v n xs∧∀k∈blk v,base≤k:=⟨z0o h (Nat.zero_le _),fun k hk=>(h.lt k (by simpa[blk]using hk)).1⟩
def z20(c:Int)(zs:List ActD):List ActD:=z09 c zs.length
theorem z7K(c:Int)(v:Value)(zs:List ActD):actK.fp v (z20 c zs)=actK.fp v zs:=by rw[z03,z03]
theorem q0f(v:Value)(zs:List ActD)(c:Int)(w:World)(h:actK.Own w v zs)(hl:zs.length≤1048576)(h0:0≤c)(h1:c≤1099511627776):
  Calls Tryz.prog 93 #[v,.int .i64 c] w fun e w'=>e=.returned (.int .i64 (c+((zs.length*3:Nat):Int)))∧actK.Own w' v (z20 c zs)∧Out (actK.fp v zs) w w':=by
 refine(z7F 0 v zs.length _ c w h.1 (by omega) h0 h1).mono ?_;rintro e w' ⟨rfl,ho,hg⟩;refine⟨rfl,⟨?_,fun _ _=>trivial⟩,?_⟩
 ·have e:(z20 c zs).length=zs.length:=by simp[z20,z02]
  rw[e];exact ho
 ·rw[z03];exact Out.of_grown hg
theorem q0g(v:Value)(zs:List ActD)(c:Int)(w:World)(h:actK.At w v (z20 c zs))(hl:zs.length≤1048576)(h0:0≤c)(h1:c≤1099511627776):
  Calls Tryz.prog 244 #[v,.int .i64 c] w fun e w'=>e=.returned (.int .i64 (c+((zs.length*3:Nat):Int)))∧Below w.heap.size w w':=by
 obtain⟨a,cap,rfl⟩:=h.shape;have e:(z20 c zs).length=zs.length:=by simp[z20,z02]
 have hA:=(z0T h).2;rw[e];refine(z6E a zs.length cap c w hA (by omega) h0 h1).mono ?_;rintro e w' ⟨rfl,hw⟩;exact⟨rfl,by subst hw;exact Below.refl _ _⟩
theorem z6G(v:Value)(zs:List Int)(w:World)(h:intK.At w v zs)(hl:zs.length≤1048576):
  Calls Tryz.prog 135 #[v] w fun e w'=>∃v',e=.returned v'∧intK.Own w' v' zs∧(intK.fp v' zs).Nodup∧(∀k∈intK.fp v' zs,w.heap.size≤k)∧Below w.heap.size w w':=by
 obtain⟨a,cap,rfl⟩:=h.shape;refine(q3Z a cap zs w (z0Y h).2 hl).mono ?_;rintro e w' ⟨g,c,rfl,ho,hb⟩;obtain⟨o,hk⟩:=z0u ho;refine⟨_,rfl,⟨by rw[z4O];exact o,fun _ _=>trivial⟩,?_,?_,hb⟩
 ·rw[z3T];exact z0r _
 ·rw[z3T];exact hk
theorem z6H(v v':Value)(zs:List Int)(w:World)(h:intK.At w v zs)(h':intK.At w v' zs)(hl:zs.length≤1048576):
  Calls Tryz.prog 140 #[v,v'] w fun e w'=>e=.returned (.bool true)∧Below w.heap.size w w':=by
 obtain⟨a,cap,rfl⟩:=h.shape;obtain⟨a',cap',rfl⟩:=h'.shape;refine(q2L a a' cap cap' zs w (z0Y h).2 (z0Y h').2 (by omega)).mono ?_;rintro e w' ⟨rfl,n,hw⟩;exact⟨rfl,by subst hw;exact below_drewN (Below.refl _ _) n⟩
def z2r(c:Int)(zs:List Int):List Int:=z3p .i64 c zs.length
theorem z1t(c:Int)(v:Value)(zs:List Int):intK.fp v (z2r c zs)=intK.fp v zs:=by rw[z3T,z3T]
theorem z3U(v:Value)(zs:List Int)(c:Int)(w:World)(h:intK.Own w v zs)(hl:zs.length≤1048576)(h0:0≤c)(h1:c≤1099511627776):
  Calls Tryz.prog 87 #[v,.int .i64 c] w fun e w'=>e=.returned (.int .i64 (c+(zs.length:Int)))∧intK.Own w' v (z2r c zs)∧Out (intK.fp v zs) w w':=by
 refine(q01 0 v zs.length _ c w h.1 (by omega) h0 h1).mono ?_;rintro e w' ⟨rfl,ho,hg⟩;refine⟨rfl,⟨?_,fun _ _=>trivial⟩,?_⟩
 ·have e:(z2r c zs).length=zs.length:=by simp[z2r,z4g]
  rw[e,z4O];exact ho
 ·rw[z3T];exact Out.of_grown hg
theorem z1u{P:Type}(nm:P→Nat)(ps:List P)(k:Nat)(h:k<ps.length):nm ps[k]≤nmL nm ps:=by
 have h1:=z1g nm ps k h;have h2:=z3t nm ps (k+1);omega
def TxnQ.n(p:TxnQ):Nat:=p.acts.length
def TxnQ.wf(p:TxnQ):Prop:=p.acts.length≤9223372036854775807
theorem q4b(p:TxnQ)(c:Int)(w:World)(h:txnK.rd w p)(hn:TxnQ.wf p)(h0:0≤c)(h1:c≤1048576):
  Calls Tryz.prog 46 #[.agg #[.int .i64 p.i,.int .i64 p.s,.int .i64 p.q,p.va],.int .i64 c] w fun e w'=>∃r:Int,e=.returned (.int .i64 r)∧(¬r<0→(TxnQ.n p:Int)+r=c)∧Below w.heap.size w w':=by
 obtain⟨i,s,q,va,acts⟩:=p;have h:actK.At w va acts:=h;obtain⟨a,cap,rfl⟩:=h.shape;refine(q08 i s q a acts.length cap c w hn h0 (by omega)).mono ?_;rintro e w' ⟨rfl,hb⟩;refine⟨_,rfl,?_,hb⟩;dsimp only[TxnQ.n];split<;>omega
theorem q4c(p p':TxnQ)(w:World)(h:txnK.rd w p)(h':txnK.rd w p')(he:p.e=p'.e)(hl:TxnQ.n p≤1048576):
  Calls Tryz.prog 48 #[.agg #[.int .i64 p.i,.int .i64 p.s,.int .i64 p.q,p.va],.agg #[.int .i64 p'.i,.int .i64 p'.s,.int .i64 p'.q,p'.va]] w fun e w'=>e=.returned (.bool true)∧Below w.heap.size w w':=by
 obtain⟨i,s,q,va,acts⟩:=p;obtain⟨i',s',q',va',acts'⟩:=p';simp only[TxnQ.e,TxnD.mk.injEq]at he;obtain⟨rfl,rfl,rfl,rfl⟩:=he;have h:actK.At w va acts:=h;have h':actK.At w va' acts:=h';obtain⟨a,cap,rfl⟩:=h.shape;obtain⟨a',cap',rfl⟩:=h'.shape;have hl:acts.length≤1048576:=hl;exact q0d i s q a a' cap cap' acts w (z0T h).2 (z0T h').2 (by omega)
theorem q4d(p:TxnQ)(w:World)(h:txnK.rd w p)(hl:TxnQ.n p≤1048576):
  Calls Tryz.prog 47 #[.agg #[.int .i64 p.i,.int .i64 p.s,.int .i64 p.q,p.va]] w fun e w'=>∃p':TxnQ,e=.returned (.agg #[.int .i64 p'.i,.int .i64 p'.s,.int .i64 p'.q,p'.va])∧p'.e=p.e∧txnK.own w' p'∧(txnK.foot p').Nodup∧(∀k∈txnK.foot p',w.heap.size≤k)∧Below w.heap.size w w':=by
 obtain⟨i,s,q,va,acts⟩:=p;have h:actK.At w va acts:=h;obtain⟨a,cap,rfl⟩:=h.shape;refine(q09 i s q a cap acts w (z0T h).2 hl).mono ?_;rintro e w' ⟨g,c,rfl,ho,hb⟩;obtain⟨o,hk⟩:=z0u ho;refine⟨⟨i,s,q,_,acts⟩,rfl,rfl,⟨o,fun _ _=>trivial⟩,?_,?_,hb⟩
 ·show(actK.fp _ acts).Nodup;rw[z03];exact z0r _
 ·intro k hk2;have hk2:k∈actK.fp _ acts:=hk2;rw[z03]at hk2;exact hk k hk2
theorem z6I(v:Value)(ps:List TxnQ)(c:Int)(w:World)(h:txnK.At w v ps)(hn:ps.length≤9223372036854775807)(M:∀p∈ps,TxnQ.wf p)(h0:0≤c)(h1:c≤1048576):
  Calls Tryz.prog 128 #[v,.int .i64 c] w fun e w'=>∃r:Int,e=.returned (.int .i64 r)∧(¬r<0→((ps.length+nmL TxnQ.n ps:Nat):Int)+r=c)∧Below w.heap.size w w':=by
 obtain⟨a,cap,rfl⟩:=h.shape;by_cases W:c-ps.length<0
 ·go_enter Tryz.func128,Tryz.ntmps128
  go_wp2
  go_ret;exact⟨_,rfl,fun h=>by omega,Below.refl _ _⟩
 ·go_enter Tryz.func128,Tryz.ntmps128
  go_wp2
  go_loopw[1,5] (fun l i wr=>∃ (k:Nat) (x:Int),k≤ps.length∧i=.int .i64 k∧l=.int .i64 x∧0≤x∧x≤1048576∧Hid (ps.length+nmL TxnQ.n (ps.take k)+x=c)∧Below w.heap.size w wr) (fun _ i _=>ps.length-(intOf i).toNat)
  case atStart=>exact⟨0,c-ps.length,Nat.zero_le _,rfl,by go_num,by omega,by omega,show _=_ by simp[nmL];omega,Below.refl _ _⟩
  case round=>
   obtain⟨k,x,hk,rfl,rfl,T,U,HS,hb⟩:=hrel;by_cases z:k<ps.length
   ·obtain⟨b,V,rfl,Y,hc,O⟩:=(h.below hb).cell (by decide) k z;have d:∀j x,(txnK.cells ps[k])[j]?=some x→wr.cell? ⟨b,V+k*4+j,none⟩=some x:=hc;have c0:=d 0 (.int .i64 ps[k].i) rfl;have c1:=d 1 (.int .i64 ps[k].s) rfl;have c2:=d 2 (.int .i64 ps[k].q) rfl;have c3:=d 3 (ps[k].va) rfl;have hs:=z1g TxnQ.n ps k z;have HN:=M _ (List.getElem_mem z);have A:Hid (∀y:Int,(TxnQ.n ps[k]:Int)+y=x→ps.length+nmL TxnQ.n (ps.take (k+1))+y=c):=by
     intro y hy;have:=HS.out;omega
    clear HS hs hc d;generalize ps[k]=p at*;have J:=q4b p x wr O HN T U;generalize TxnQ.n p=m at*;rw[Nat.add_zero]at c0
    go_wp2_with fail
    refine J.mono ?_;rintro e w2 ⟨r,rfl,hr,C⟩;replace hb:=hb.trans (C.mono hb.size);clear C J c0 c1 c2 c3;by_cases X:r<0
    ·go_wp2
     go_ret;exact⟨_,rfl,fun h=>by omega,hb⟩
    ·have I:=hr (by omega);have HR:Hid (ps.length+nmL TxnQ.n (ps.take (k+1))+r=c):=A.out r I;have N:r≤1048576:=by omega
     clear A hr I
     go_wp2
     go_roundw
     case rel=>exact⟨k+1,r,by omega,by go_num,rfl,by omega,N,HR.out,hb⟩
     case measure=>simp[intOf];omega
   ·have L:k=ps.length:=by omega
    subst L;rw[List.take_length]at HS
    go_wp2
    go_ret;exact⟨_,rfl,fun _=>by have:=HS.out;omega,hb⟩
theorem z6J(v v':Value)(ps qs:List TxnQ)(w:World)(h:txnK.At w v ps)(h':txnK.At w v' qs)(he:ps.map TxnQ.e=qs.map TxnQ.e)(hl:(ps.length+nmL TxnQ.n ps)≤1048576):
  Calls Tryz.prog 138 #[v,v'] w fun e w'=>e=.returned (.bool true)∧Below w.heap.size w w':=by
 obtain⟨a,cap,rfl⟩:=h.shape;obtain⟨a',V,rfl⟩:=h'.shape;have y:qs.length=ps.length:=by
  have:=congrArg List.length he;simpa using this.symm
 rw[y]at h'⊢;have HL:Hid (qs.length=ps.length):=y;clear y;go_enter Tryz.func138,Tryz.ntmps138
 go_wp2
 go_loopw[5] (fun i wr=>∃k:Nat,k≤ps.length∧i=.int .i64 k∧Below w.heap.size w wr) (fun i _=>ps.length-(intOf i).toNat)
 case atStart=>exact⟨0,Nat.zero_le _,rfl,Below.refl _ _⟩
 case round=>
  obtain⟨k,hk,rfl,hb⟩:=hrel;by_cases C:k<ps.length
  ·have z:k<qs.length:=by have:=HL.out;omega
   obtain⟨b,U,rfl,X,hc,M⟩:=(h.below hb).cell (by decide) k C;obtain⟨b',N,rfl,W,hd,A⟩:=(h'.below hb).cell (by decide) k z;have c:∀j x,(txnK.cells ps[k])[j]?=some x→wr.cell? ⟨b,U+k*4+j,none⟩=some x:=hc;have d:∀j x,(txnK.cells qs[k])[j]?=some x→wr.cell? ⟨b',N+k*4+j,none⟩=some x:=hd;have c0:=c 0 (.int .i64 ps[k].i) rfl;have d0:=d 0 (.int .i64 qs[k].i) rfl;have c1:=c 1 (.int .i64 ps[k].s) rfl;have d1:=d 1 (.int .i64 qs[k].s) rfl;have c2:=c 2 (.int .i64 ps[k].q) rfl;have d2:=d 2 (.int .i64 qs[k].q) rfl;have c3:=c 3 (ps[k].va) rfl;have d3:=d 3 (qs[k].va) rfl;have L:TxnQ.e ps[k]=TxnQ.e qs[k]:=by
    have:=congrArg (·[k]?) he;simpa[C,z]using this
   have T:=z1u TxnQ.n ps k C;clear hc c hd d;generalize ps[k]=p at*;generalize qs[k]=p' at*;have I:=fun w h1 h2=>q4c p p' w h1 h2 L (show TxnQ.n p≤1048576 by omega)
   clear L T;rw[Nat.add_zero]at c0 d0;have k0:=z0f c0;have l0:=z0f d0;have k1:=z0f c1;have l1:=z0f d1;have k2:=z0f c2;have l2:=z0f d2;have k3:=z0f c3;have l3:=z0f d3;clear c0 d0 c1 d1 c2 d2 c3 d3;have hW:Below wr.heap.size wr wr.drew:=(Below.refl _ _).drew;have O:Nonempty (Lat wr):=⟨⟨wr,Below.refl _ _⟩⟩
   go_wp2_with fail
   refine z0e (S:=fun w'=>∃u:Lat wr,w'=u.val) (by kernel_rfl) ?_;refine sgr [(0,8)] 2 (by kernel_rfl) ⟨⟨_,hW⟩,rfl⟩ ?_;simp only[pkE];repeat go_big_quiet_step (fail)
   refine wpQuiet_nil ?_;refine cla 8 (some 25) 48 #[.agg #[.int .i64 p.i,.int .i64 p.s,.int .i64 p.q,p.va],.agg #[.int .i64 p'.i,.int .i64 p'.s,.int .i64 p'.q,p'.va]] 1 (by kernel_rfl) ?_;refine(I _ (txnK.rd_below M hW) (txnK.rd_below A hW)).mono ?_;rintro e w2 ⟨rfl,J⟩;replace hW:=hW.trans (J.mono hW.size);clear J;refine⟨_,rfl,⟨⟨_,hW⟩,rfl⟩,?_⟩;simp only[Act.put,pjE];refine sgr [(9,1)] 0 (by kernel_rfl) ⟨⟨_,hW⟩,rfl⟩ ?_;simp only[pkE];repeat go_big_quiet_step (fail)
   refine wpQuiet_nil ?_;refine z0i (by kernel_rfl) ?_;replace hb:=hb.trans (hW.mono hb.size);clear k0 l0 k1 l1 k2 l2 k3 l3 hW O M A I
   go_wp2
   go_roundw
   case rel=>exact⟨k+1,by omega,by go_num,hb⟩
   case measure=>simp[intOf];omega
  ·go_wp2
   go_ret;exact⟨rfl,hb⟩
theorem z6K(v:Value)(ps:List TxnQ)(w:World)(h:txnK.At w v ps)(hl:(ps.length+nmL TxnQ.n ps)≤1048576):
  Calls Tryz.prog 133 #[v] w fun e w'=>∃v' qs,e=.returned v'∧qs.map TxnQ.e=ps.map TxnQ.e∧txnK.Own w' v' qs∧(txnK.fp v' qs).Nodup∧(∀k∈txnK.fp v' qs,w.heap.size≤k)∧Below w.heap.size w w':=by
 obtain⟨a,cap,rfl⟩:=h.shape;obtain⟨i0,hi,aq,ar,au⟩:=info_parts z1p;have O:i0.bytes*ps.length≤281474976710656:=by rw[au];omega
 have ag:ps.length≤maxLen:=by unfold maxLen;omega
 go_enter Tryz.func133,Tryz.ntmps133
 go_wp2_with (at_make;refine wpList_make_full _ rfl _ _ 25 rfl w.heap.size 39 i0 (.agg #[.int .i64 0,.int .i64 0,.int .i64 0,.slice none 0 0]) 4 Tryz.underlying25 hi aq ar _ _ _ _ ps.length rfl rfl rfl rfl O ag (Nat.le_refl _) ?_)
 intro w1 U L;have ab:Below w.heap.size w w1:=(Below.refl _ _).grown L (Nat.le_refl _) (by simp);have hO:txnK.Own w1 (.slice (some ⟨w.heap.size,0,none⟩) ps.length ps.length) (List.replicate ps.length (⟨0,0,0,.slice none 0 0,[]⟩:TxnQ)):=by
  refine⟨?_,fun p hp=>?_⟩
  ·rw[List.length_replicate,←z4N (⟨0,0,0,.slice none 0 0,[]⟩:TxnQ) _ (by decide)];exact z0o U (Nat.zero_le _)
  ·rw[(List.mem_replicate.1 hp).2];exact⟨World.ownsRow_nil _ _ _ _,fun p hp=>by simp at hp⟩
 have hF:txnK.fp (.slice (some ⟨w.heap.size,0,none⟩) ps.length ps.length) (List.replicate ps.length (⟨0,0,0,.slice none 0 0,[]⟩:TxnQ))=[w.heap.size]:=z9C rfl;have HN:Hid ((txnK.fp (.slice (some ⟨w.heap.size,0,none⟩) ps.length ps.length) (List.replicate ps.length (⟨0,0,0,.slice none 0 0,[]⟩:TxnQ))).Nodup):=by rw[hF];show List.Nodup _;simp
 have HG:Hid (∀x∈txnK.fp (.slice (some ⟨w.heap.size,0,none⟩) ps.length ps.length) (List.replicate ps.length (⟨0,0,0,.slice none 0 0,[]⟩:TxnQ)),w.heap.size≤x):=by rw[hF];intro x hx;simp at hx;omega
 have HZ:Hid (∀j (hj:j<(List.replicate ps.length (⟨0,0,0,.slice none 0 0,[]⟩:TxnQ)).length),0≤j→(List.replicate ps.length (⟨0,0,0,.slice none 0 0,[]⟩:TxnQ))[j]=(⟨0,0,0,.slice none 0 0,[]⟩:TxnQ)):=fun j hj _=>by simp
 have ah:(List.replicate ps.length (⟨0,0,0,.slice none 0 0,[]⟩:TxnQ)).length=ps.length:=by simp
 clear U L hF;generalize List.replicate ps.length (⟨0,0,0,.slice none 0 0,[]⟩:TxnQ)=al at*;have HE:Hid ((al.take 0).map TxnQ.e=(ps.take 0).map TxnQ.e):=show _=_ by simp
 go_wp2
 go_loopw [4] (fun i wr=>∃ (k:Nat) (qs:List TxnQ),k≤ps.length∧i=.int .i64 k∧Hid (qs.length=ps.length)∧Hid ((qs.take k).map TxnQ.e=(ps.take k).map TxnQ.e)∧Hid (∀ j (hj:j < qs.length),k≤j→qs[j]=(⟨0,0,0,.slice none 0 0,[]⟩:TxnQ))∧txnK.Own wr (.slice (some ⟨w.heap.size,0,none⟩) ps.length ps.length) qs ∧
  Hid ((txnK.fp (.slice (some ⟨w.heap.size,0,none⟩) ps.length ps.length) qs).Nodup)∧Hid (∀ x∈txnK.fp (.slice (some ⟨w.heap.size,0,none⟩) ps.length ps.length) qs,w.heap.size≤x)∧Below w.heap.size w wr) (fun i _=>ps.length - (intOf i).toNat)
 case atStart=>exact⟨0,al,Nat.zero_le _,rfl,ah,HE,HZ,hO,HN,HG,ab⟩
 case round=>
  clear HE HZ hO HN HG ab ah;obtain⟨k,qs,hk,rfl,HQ,HE,HZ,hO,HN,HG,hb⟩:=hrel;by_cases Y:k<ps.length
  ·have c:k<qs.length:=by have:=HQ.out;omega
   have I:=HZ.out k c (Nat.le_refl _);obtain⟨b,av,rfl,aw,hc,ai⟩:=(h.below hb).cell (by decide) k Y;have J:∀j x,(txnK.cells ps[k])[j]?=some x→wr.cell? ⟨b,av+k*4+j,none⟩=some x:=hc;have c0:=J 0 (.int .i64 ps[k].i) rfl;have c1:=J 1 (.int .i64 ps[k].s) rfl;have c2:=J 2 (.int .i64 ps[k].q) rfl;have c3:=J 3 (ps[k].va) rfl;have az:=z1u TxnQ.n ps k Y;have aa:Hid (∀p':TxnQ,p'.e=TxnQ.e ps[k]→((qs.set k p').take (k+1)).map TxnQ.e=(ps.take (k+1)).map TxnQ.e):=by
    intro p' ao;have h1:=HE.out;rw[List.take_succ_eq_append_getElem Y,List.take_succ_eq_append_getElem (show k<(qs.set k p').length by simpa using c)];simp only[List.map_append,List.map_cons,List.map_nil,List.getElem_set_self,ao,List.take_set_of_le (Nat.le_refl k),h1]
   clear hc J;generalize ps[k]=p at*;have aj:=q4d p wr ai (by omega);rw[Nat.add_zero]at c0
   go_wp2_with fail
   refine aj.mono ?_;rintro e w2 ⟨p',rfl,Z,d,M,y,ad⟩;obtain⟨x0,x1,x2,x3,y3⟩:=p';have o3:actK.Own w2 x3 y3:=d;obtain⟨a3,b3,rfl⟩:=o3.shape;clear o3;dsimp only;generalize hP:(⟨x0,x1,x2,.slice a3 y3.length b3,y3⟩:TxnQ)=p' at Z d M y;have W:txnK.cells p'=[.int .i64 x0,.int .i64 x1,.int .i64 x2,.slice a3 y3.length b3]:=by rw[←hP];rfl
   have z:=hO.below ad;obtain⟨e0,f0⟩:=z.cell k c 0 _ (by rw[I];rfl);obtain⟨e1,f1⟩:=z.cell k c 1 _ (by rw[I];rfl);obtain⟨e2,f2⟩:=z.cell k c 2 _ (by rw[I];rfl);obtain⟨e3,f3⟩:=z.cell k c 3 _ (by rw[I];rfl);have af:∀j,k*txnK.size+j=k*4+j:=fun j=>rfl
   rw[af]at e0 f0 e1 f1 e2 f2 e3 f3;rw[Nat.add_zero]at e0 f0;have A:=z.1;have hQ:=HQ.out;rw[hQ]at A;have C:=z16 A (k*4) [.int .i64 x0,.int .i64 x1,.int .i64 x2,.slice a3 y3.length b3];rw[←W]at C;have X:∀x∈txnK.fp (.slice (some ⟨w.heap.size,0,none⟩) ps.length ps.length) qs,x<wr.heap.size:=hO.lt;have ae:w.heap.size∈txnK.fp (.slice (some ⟨w.heap.size,0,none⟩) ps.length ps.length) qs:=by simp[Kind.fp,blk,Value.ownBlock]
   have ax:w.heap.size<wr.heap.size:=X _ ae;have N:=HN.out;have T:∀x∈txnK.foot p',x∉txnK.fp (.slice (some ⟨w.heap.size,0,none⟩) ps.length ps.length) qs:=fun x hx ap=>by have:=y x hx;have:=X x ap;omega
   have V:txnK.Own ((((w2.setCell ⟨w.heap.size,k*4,none⟩ (.int .i64 x0)).setCell ⟨w.heap.size,k*4+1,none⟩ (.int .i64 x1)).setCell ⟨w.heap.size,k*4+2,none⟩ (.int .i64 x2)).setCell ⟨w.heap.size,k*4+3,none⟩ (.slice a3 y3.length b3)) (.slice (some ⟨w.heap.size,0,none⟩) ps.length ps.length) (qs.set k p'):=by
    refine Kind.Own.put z k c p' ?_ ((((Out.setCell _ _ _ _).trans (Out.setCell _ _ _ _)).trans (Out.setCell _ _ _ _)).trans (Out.setCell _ _ _ _)) ?_ d ?_
    ·rw[hQ];rw[W]at C⊢;exact C
    ·intro q hq x hx ak;simp only[Kind.fp,blk,Value.ownBlock,Option.toList,List.cons_append,List.nil_append,List.nodup_cons]at N;exact N.1 (List.mem_flatMap.2 ⟨q,hq,ak▸hx⟩)
    ·intro x hx ak;have:=y x hx;omega
   have R:Hid (txnK.Own ((((w2.setCell ⟨w.heap.size,k*4,none⟩ (.int .i64 x0)).setCell ⟨w.heap.size,k*4+1,none⟩ (.int .i64 x1)).setCell ⟨w.heap.size,k*4+2,none⟩ (.int .i64 x2)).setCell ⟨w.heap.size,k*4+3,none⟩ (.slice a3 y3.length b3)) (.slice (some ⟨w.heap.size,0,none⟩) ps.length ps.length) (qs.set k p')∧Below w.heap.size w ((((w2.setCell ⟨w.heap.size,k*4,none⟩ (.int .i64 x0)).setCell ⟨w.heap.size,k*4+1,none⟩ (.int .i64 x1)).setCell ⟨w.heap.size,k*4+2,none⟩ (.int .i64 x2)).setCell ⟨w.heap.size,k*4+3,none⟩ (.slice a3 y3.length b3))):=by
    refine⟨V,?_⟩;have am:=hb.trans (ad.mono hb.size);exact((((am.setCell (p:=⟨w.heap.size,k*4,none⟩) (Nat.le_refl _) _).setCell (p:=⟨w.heap.size,k*4+1,none⟩) (Nat.le_refl _) _).setCell (p:=⟨w.heap.size,k*4+2,none⟩) (Nat.le_refl _) _).setCell (p:=⟨w.heap.size,k*4+3,none⟩) (Nat.le_refl _) _)
   have R1:Hid ((txnK.fp (.slice (some ⟨w.heap.size,0,none⟩) ps.length ps.length) (qs.set k p')).Nodup):=z3v N k c p' (by rw[I];rfl) M T;have R2:Hid (∀x∈txnK.fp (.slice (some ⟨w.heap.size,0,none⟩) ps.length ps.length) (qs.set k p'),w.heap.size≤x):=by
    intro x hx;simp only[Kind.fp,List.mem_append]at hx;rcases hx with hx|hx
    ·exact HG.out x (by simp only[Kind.fp,List.mem_append];exact Or.inl hx)
    ·rcases z1K c hx with hx|hx
     ·exact HG.out x (by simp only[Kind.fp,List.mem_append];exact Or.inr hx)
     ·have:=y x hx;omega
   have R3:Hid (∀j (hj:j<(qs.set k p').length),k+1≤j→(qs.set k p')[j]=(⟨0,0,0,.slice none 0 0,[]⟩:TxnQ)):=fun j hj ay=>by
    rw[List.getElem_set_ne (by omega)];exact HZ.out j (by simpa using hj) (by omega)
   have R4:Hid ((qs.set k p').length=ps.length):=by rw[List.length_set];exact HQ.out
   have R5:Hid (((qs.set k p').take (k+1)).map TxnQ.e=(ps.take (k+1)).map TxnQ.e):=aa.out p' Z;clear V C A hQ z hO HN HG HZ HE HQ aa N T d M y X ae hb I ai aj Z af W hP
   go_wp2
   go_roundw
   case rel=>exact⟨k+1,qs.set k p',by omega,by go_num,R4.out,R5.out,R3.out,R.out.1,R1.out,R2.out,R.out.2⟩
   case measure=>simp[intOf];omega
  ·have an:k=ps.length:=by omega
   subst an;have hQ:=HQ.out;have hE:=HE.out;rw[List.take_length,List.take_of_length_le (by omega)]at hE;clear HE HZ
   go_wp2
   go_ret;exact⟨_,qs,rfl,hE,hO,HN.out,HG.out,hb⟩
def RoundQ.n(p:RoundQ):Nat:=p.rep.length+p.pro.length
def RoundQ.wf(p:RoundQ):Prop:=p.rep.length≤9223372036854775807∧p.pro.length≤9223372036854775807
theorem q1a:(Tryz.prog.info? 203).map (fun i=>(i.zero,i.size,i.bytes))=some (some (.agg #[.slice none 0 0,.slice none 0 0]),2,48):=by kernel_rfl
theorem z6L(v:Value)(zs:List Int)(c:Int)(w:World)(h:intK.At w v zs)(hn:zs.length≤9223372036854775807)(h0:0≤c)(h1:c≤1048576):
  Calls Tryz.prog 130 #[v,.int .i64 c] w fun e w'=>∃r:Int,e=.returned (.int .i64 r)∧(¬r<0→(zs.length:Int)+r=c)∧Below w.heap.size w w':=by
 obtain⟨a,cap,rfl⟩:=h.shape;by_cases hbig:c-zs.length<0
 ·go_enter Tryz.func130,Tryz.ntmps130
  go_wp2
  go_ret;exact⟨_,rfl,fun h=>by omega,Below.refl _ _⟩
 ·go_enter Tryz.func130,Tryz.ntmps130
  go_wp2
  go_ret;exact⟨_,rfl,fun h=>by omega,Below.refl _ _⟩
theorem q1b(p:RoundQ)(c:Int)(w:World)(h:roundK.rd w p)(hn:RoundQ.wf p)(h0:0≤c)(h1:c≤1048576):
  Calls Tryz.prog 188 #[.agg #[p.vr,p.vp],.int .i64 c] w fun e w'=>∃r:Int,e=.returned (.int .i64 r)∧(¬r<0→(RoundQ.n p:Int)+r=c)∧Below w.heap.size w w':=by
 obtain⟨vr,x,vp,d⟩:=p;obtain⟨I,J⟩:intK.At w vr x∧intK.At w vp d:=h;obtain⟨L,M⟩:x.length≤9223372036854775807∧d.length≤9223372036854775807:=hn;obtain⟨a0,k0,rfl⟩:=I.shape;obtain⟨a1,k1,rfl⟩:=J.shape;have B:=Blk.new w 265 #[.slice a0 x.length k0,.slice a1 d.length k1];have hB:Below w.heap.size w (w.alloc (.cells #[.slice a0 x.length k0,.slice a1 d.length k1] 265)):=by go_grown
 dsimp only[RoundQ.n];go_enter Tryz.func188,Tryz.ntmps188
 go_wp2_with fail
 generalize w.alloc (.cells #[.slice a0 x.length k0,.slice a1 d.length k1] 265)=W at*;refine(z6L _ x c W (I.below hB) L (by omega) (by omega)).mono ?_;rintro e w0 ⟨r0,rfl,N,y⟩;replace B:=B.below y;replace hB:=hB.trans (y.mono hB.size);clear y;by_cases A:r0<0
 ·go_wp2
  go_ret;exact⟨_,rfl,fun h=>by omega,hB⟩
 have T:=N A;clear N;have p1:=B.cell 1 _ rfl
 go_wp2_with fail
 clear p1;refine(z6L _ d r0 w0 (J.below hB) M (by omega) (by omega)).mono ?_;rintro e w1 ⟨r1,rfl,O,z⟩;replace B:=B.below z;replace hB:=hB.trans (z.mono hB.size);clear z;by_cases C:r1<0
 ·go_wp2
  go_ret;exact⟨_,rfl,fun h=>by omega,hB⟩
 have U:=O C;clear O
 go_wp2
 go_ret;exact⟨_,rfl,fun _=>by omega,hB⟩
theorem q1c(p p':RoundQ)(w:World)(h:roundK.rd w p)(h':roundK.rd w p')(he:p.e=p'.e)(hl:RoundQ.n p≤1048576):
  Calls Tryz.prog 193 #[.agg #[p.vr,p.vp],.agg #[p'.vr,p'.vp]] w fun e w'=>e=.returned (.bool true)∧Below w.heap.size w w':=by
 obtain⟨vr,d,vp,c⟩:=p;obtain⟨U,O,T,N⟩:=p';simp only[RoundQ.e,RoundE.mk.injEq]at he;obtain⟨V,X⟩:=he;dsimp only[RoundQ.n]at hl;obtain⟨I,J⟩:intK.At w vr d∧intK.At w vp c:=h;obtain⟨z,A⟩:intK.At w U O∧intK.At w T N:=h';subst V;subst X;have L:=fun w h1 h2=>z6H vr U d w h1 h2 (by omega)
 have M:=fun w h1 h2=>z6H vp T c w h1 h2 (by omega)
 obtain⟨a0,k0,rfl⟩:=I.shape;obtain⟨b0,m0,rfl⟩:=z.shape;obtain⟨a1,k1,rfl⟩:=J.shape;obtain⟨b1,m1,rfl⟩:=A.shape;have B:=(Blk.new w 203 #[.slice a0 d.length k0,.slice a1 c.length k1]).below (w':=(w.alloc (.cells #[.slice a0 d.length k0,.slice a1 c.length k1] 203)).alloc (.cells #[.slice b0 d.length m0,.slice b1 c.length m1] 203)) (by go_grown);have C:=Blk.new (w.alloc (.cells #[.slice a0 d.length k0,.slice a1 c.length k1] 203)) 203 #[.slice b0 d.length m0,.slice b1 c.length m1];have hB:Below w.heap.size w ((w.alloc (.cells #[.slice a0 d.length k0,.slice a1 c.length k1] 203)).alloc (.cells #[.slice b0 d.length m0,.slice b1 c.length m1] 203)):=by go_grown
 rw[World.size_alloc]at C;skip;go_enter Tryz.func193,Tryz.ntmps193
 go_wp2_with fail
 generalize (w.alloc (.cells #[.slice a0 d.length k0,.slice a1 c.length k1] 203)).alloc (.cells #[.slice b0 d.length m0,.slice b1 c.length m1] 203)=W at*;refine(L W (I.below hB) (z.below hB)).mono ?_;rintro e w0 ⟨rfl,x⟩;replace B:=B.below x;replace C:=C.below x;replace hB:=hB.trans (x.mono hB.size);clear x L;have p1:=B.cell 1 _ rfl;have q1:=C.cell 1 _ rfl
 go_wp2_with fail
 clear p1 q1;refine(M w0 (J.below hB) (A.below hB)).mono ?_;rintro e w1 ⟨rfl,y⟩;replace B:=B.below y;replace C:=C.below y;replace hB:=hB.trans (y.mono hB.size);clear y M
 go_wp2
 go_ret;exact⟨rfl,hB⟩
theorem z6M{A B:List Nat}{m:Nat}(hA:∀k∈A,k<m)(hB:∀k∈B,m≤k):∀a∈A,∀b∈B,a≠b:=fun a ha b hb e=>by
 have:=hA a ha;have:=hB b hb;omega
theorem q1d(p:RoundQ)(w:World)(h:roundK.rd w p)(hl:RoundQ.n p≤1048576):
  Calls Tryz.prog 190 #[.agg #[p.vr,p.vp]] w fun e w'=>∃p':RoundQ,e=.returned (.agg #[p'.vr,p'.vp])∧p'.e=p.e∧roundK.own w' p'∧(roundK.foot p').Nodup∧(∀k∈roundK.foot p',w.heap.size≤k)∧Below w.heap.size w w':=by
 obtain⟨vr,c,vp,d⟩:=p;dsimp only[RoundQ.n]at hl;obtain⟨x,y⟩:intK.At w vr c∧intK.At w vp d:=h;have z:=fun w h1=>z6G vr c w h1 (by omega)
 have A:=fun w h1=>z6G vp d w h1 (by omega)
 obtain⟨a0,k0,rfl⟩:=x.shape;obtain⟨a1,k1,rfl⟩:=y.shape;have B:=(Blk.new w 265 #[.slice a0 c.length k0,.slice a1 d.length k1]).below (w':=((w.alloc (.cells #[.slice a0 c.length k0,.slice a1 d.length k1] 265)).alloc (.cells #[.slice none 0 0,.slice none 0 0] 203)).alloc (.cells #[.slice none 0 0,.slice none 0 0] 203)) (by go_grown);have C:=(Blk.new (w.alloc (.cells #[.slice a0 c.length k0,.slice a1 d.length k1] 265)) 203 #[.slice none 0 0,.slice none 0 0]).below (w':=((w.alloc (.cells #[.slice a0 c.length k0,.slice a1 d.length k1] 265)).alloc (.cells #[.slice none 0 0,.slice none 0 0] 203)).alloc (.cells #[.slice none 0 0,.slice none 0 0] 203)) (by go_grown);have D:=Blk.new ((w.alloc (.cells #[.slice a0 c.length k0,.slice a1 d.length k1] 265)).alloc (.cells #[.slice none 0 0,.slice none 0 0] 203)) 203 #[.slice none 0 0,.slice none 0 0];have hB:Below w.heap.size w (((w.alloc (.cells #[.slice a0 c.length k0,.slice a1 d.length k1] 265)).alloc (.cells #[.slice none 0 0,.slice none 0 0] 203)).alloc (.cells #[.slice none 0 0,.slice none 0 0] 203)):=by go_grown
 simp only[World.size_alloc]at C D;have hS:w.heap.size+3≤(((w.alloc (.cells #[.slice a0 c.length k0,.slice a1 d.length k1] 265)).alloc (.cells #[.slice none 0 0,.slice none 0 0] 203)).alloc (.cells #[.slice none 0 0,.slice none 0 0] 203)).heap.size:=by simp only[World.size_alloc];omega
 go_enter Tryz.func190,Tryz.ntmps190
 go_wp2_with fail
 generalize ((w.alloc (.cells #[.slice a0 c.length k0,.slice a1 d.length k1] 265)).alloc (.cells #[.slice none 0 0,.slice none 0 0] 203)).alloc (.cells #[.slice none 0 0,.slice none 0 0] 203)=W at*;refine(z W (x.below hB)).mono ?_;rintro e y0 ⟨v0,rfl,O0,N0,G0,hb⟩;replace B:=B.below hb;replace C:=C.below hb;replace D:=D.below hb;replace hB:=hB.trans (hb.mono hB.size);have s0:=hb.size;obtain⟨x0,z0,rfl⟩:=O0.shape;clear hb z;have p1:=B.cell 1 _ rfl;have d0:=D.cell 0 _ rfl;have f0:=D.frozen 0
 go_wp2_with fail
 clear p1 d0 f0;have U0:=(Out.refl [w.heap.size+1,w.heap.size+1+1] y0).set (b:=w.heap.size+1+1) (j:=0) (u:=.slice x0 c.length z0) (by simp);replace D:=D.set 0 (.slice x0 c.length z0);replace B:=B.other (b':=w.heap.size+1+1) (by omega) 0 (.slice x0 c.length z0);replace C:=C.other (b':=w.heap.size+1+1) (by omega) 0 (.slice x0 c.length z0);replace hB:=hB.setCell (p:=⟨w.heap.size+1+1,0,none⟩) (by show w.heap.size≤w.heap.size+1+1;omega) (.slice x0 c.length z0);have s1:=U0.size;simp only[pjE]at D;generalize y0.setCell ⟨w.heap.size+1+1,0,none⟩ (.slice x0 c.length z0)=V0 at*;refine(A V0 (y.below hB)).mono ?_;rintro e y1 ⟨v1,rfl,O1,N1,G1,hb⟩;replace U0:=U0.call hb;replace B:=B.below hb;replace C:=C.below hb;replace D:=D.below hb;replace hB:=hB.trans (hb.mono hB.size);have s2:=hb.size;obtain⟨x1,z1,rfl⟩:=O1.shape;clear hb A B;have d0:=D.cell 0 _ rfl;have f0:=D.frozen 0;have d1:=D.cell 1 _ rfl;have f1:=D.frozen 1;have c0:=C.cell 0 _ rfl;have g0:=C.frozen 0;have c1:=C.cell 1 _ rfl;have g1:=C.frozen 1;have R:Hid (∀j u j' u' j2 u2,roundK.own (((y1.setCell ⟨w.heap.size+1+1,j,none⟩ u).setCell ⟨w.heap.size+1,j',none⟩ u').setCell ⟨w.heap.size+1,j2,none⟩ u2) ⟨.slice x0 c.length z0,c,.slice x1 d.length z1,d⟩∧Below w.heap.size w (((y1.setCell ⟨w.heap.size+1+1,j,none⟩ u).setCell ⟨w.heap.size+1,j',none⟩ u').setCell ⟨w.heap.size+1,j2,none⟩ u2)):=by
  intro j u j' u' j2 u2;have V0:=((U0.set (b:=w.heap.size+1+1) (j:=j) (u:=u) (by simp)).set (b:=w.heap.size+1) (j:=j') (u:=u') (by simp)).set (b:=w.heap.size+1) (j:=j2) (u:=u2) (by simp);have V1:=(((Out.refl [w.heap.size+1,w.heap.size+1+1] y1).set (b:=w.heap.size+1+1) (j:=j) (u:=u) (by simp)).set (b:=w.heap.size+1) (j:=j') (u:=u') (by simp)).set (b:=w.heap.size+1) (j:=j2) (u:=u2) (by simp);refine⟨⟨O0.out V0 (fun k hk=>?_),O1.out V1 (fun k hk=>?_)⟩,?_⟩
  ·have:=G0 k hk;simp only[List.mem_cons,List.not_mem_nil,or_false];omega
  ·have:=G1 k hk;simp only[List.mem_cons,List.not_mem_nil,or_false];omega
  ·exact((hB.setCell (p:=⟨w.heap.size+1+1,j,none⟩) (by show w.heap.size≤w.heap.size+1+1;omega) u).setCell (p:=⟨w.heap.size+1,j',none⟩) (by show w.heap.size≤w.heap.size+1;omega) u').setCell (p:=⟨w.heap.size+1,j2,none⟩) (by show w.heap.size≤w.heap.size+1;omega) u2
 have R1:Hid ((roundK.foot ⟨.slice x0 c.length z0,c,.slice x1 d.length z1,d⟩).Nodup∧(∀k∈roundK.foot ⟨.slice x0 c.length z0,c,.slice x1 d.length z1,d⟩,w.heap.size≤k)):=by
  have L0:=O0.lt;refine⟨?_,?_⟩
  ·show List.Nodup (_++_);exact List.nodup_append.2 ⟨N0,N1,z6M (m:=V0.heap.size) (fun k hk=>by have:=L0 k hk;omega) G1⟩
  ·intro k hk;rcases List.mem_append.1 hk with hk|hk
   ·have:=G0 k hk;omega
   ·have:=G1 k hk;omega
 clear O0 O1 N0 N1 G0 G1 U0 hB C D x y
 go_wp2
 exact bodyPost_ret (v:=.agg #[.slice x0 c.length z0,.slice x1 d.length z1]) (by simp[results,Tryz.results190,go_sem,c0,c1]) rfl ⟨⟨.slice x0 c.length z0,c,.slice x1 d.length z1,d⟩,rfl,rfl,(R.out _ _ _ _ _ _).1,R1.out.1,R1.out.2,(R.out _ _ _ _ _ _).2⟩
theorem q0h(v:Value)(ps:List RoundQ)(c:Int)(w:World)(h:roundK.At w v ps)(hn:ps.length≤9223372036854775807)(M:∀p∈ps,RoundQ.wf p)(h0:0≤c)(h1:c≤1048576):
  Calls Tryz.prog 129 #[v,.int .i64 c] w fun e w'=>∃r:Int,e=.returned (.int .i64 r)∧(¬r<0→((ps.length+nmL RoundQ.n ps:Nat):Int)+r=c)∧Below w.heap.size w w':=by
 obtain⟨a,cap,rfl⟩:=h.shape;by_cases W:c-ps.length<0
 ·go_enter Tryz.func129,Tryz.ntmps129
  go_wp2
  go_ret;exact⟨_,rfl,fun h=>by omega,Below.refl _ _⟩
 ·go_enter Tryz.func129,Tryz.ntmps129
  go_wp2
  go_loopw[1,5] (fun l i wr=>∃ (k:Nat) (x:Int),k≤ps.length∧i=.int .i64 k∧l=.int .i64 x∧0≤x∧x≤1048576∧Hid (ps.length+nmL RoundQ.n (ps.take k)+x=c)∧Below w.heap.size w wr) (fun _ i _=>ps.length-(intOf i).toNat)
  case atStart=>exact⟨0,c-ps.length,Nat.zero_le _,rfl,by go_num,by omega,by omega,show _=_ by simp[nmL];omega,Below.refl _ _⟩
  case round=>
   obtain⟨k,x,hk,rfl,rfl,T,U,HS,hb⟩:=hrel;by_cases z:k<ps.length
   ·obtain⟨b,V,rfl,Y,hc,O⟩:=(h.below hb).cell (by decide) k z;have d:∀j x,(roundK.cells ps[k])[j]?=some x→wr.cell? ⟨b,V+k*2+j,none⟩=some x:=hc;have c0:=d 0 (ps[k].vr) rfl;have c1:=d 1 (ps[k].vp) rfl;have hs:=z1g RoundQ.n ps k z;have HN:=M _ (List.getElem_mem z);have A:Hid (∀y:Int,(RoundQ.n ps[k]:Int)+y=x→ps.length+nmL RoundQ.n (ps.take (k+1))+y=c):=by
     intro y hy;have:=HS.out;omega
    clear HS hs hc d;generalize ps[k]=p at*;have J:=q1b p x wr O HN T U;generalize RoundQ.n p=m at*;rw[Nat.add_zero]at c0
    go_wp2_with fail
    refine J.mono ?_;rintro e w2 ⟨r,rfl,hr,C⟩;replace hb:=hb.trans (C.mono hb.size);clear C J c0 c1;by_cases X:r<0
    ·go_wp2
     go_ret;exact⟨_,rfl,fun h=>by omega,hb⟩
    ·have I:=hr (by omega);have HR:Hid (ps.length+nmL RoundQ.n (ps.take (k+1))+r=c):=A.out r I;have N:r≤1048576:=by omega
     clear A hr I
     go_wp2
     go_roundw
     case rel=>exact⟨k+1,r,by omega,by go_num,rfl,by omega,N,HR.out,hb⟩
     case measure=>simp[intOf];omega
   ·have L:k=ps.length:=by omega
    subst L;rw[List.take_length]at HS
    go_wp2
    go_ret;exact⟨_,rfl,fun _=>by have:=HS.out;omega,hb⟩
theorem q0i(v v':Value)(ps qs:List RoundQ)(w:World)(h:roundK.At w v ps)(h':roundK.At w v' qs)(he:ps.map RoundQ.e=qs.map RoundQ.e)(hl:(ps.length+nmL RoundQ.n ps)≤1048576):
  Calls Tryz.prog 139 #[v,v'] w fun e w'=>e=.returned (.bool true)∧Below w.heap.size w w':=by
 obtain⟨a,cap,rfl⟩:=h.shape;obtain⟨a',V,rfl⟩:=h'.shape;have c:qs.length=ps.length:=by
  have:=congrArg List.length he;simpa using this.symm
 rw[c]at h'⊢;have HL:Hid (qs.length=ps.length):=c;clear c;go_enter Tryz.func139,Tryz.ntmps139
 go_wp2
 go_loopw[5] (fun i wr=>∃k:Nat,k≤ps.length∧i=.int .i64 k∧Below w.heap.size w wr) (fun i _=>ps.length-(intOf i).toNat)
 case atStart=>exact⟨0,Nat.zero_le _,rfl,Below.refl _ _⟩
 case round=>
  obtain⟨k,hk,rfl,hb⟩:=hrel;by_cases C:k<ps.length
  ·have d:k<qs.length:=by have:=HL.out;omega
   obtain⟨b,U,rfl,X,hc,M⟩:=(h.below hb).cell (by decide) k C;obtain⟨b',N,rfl,W,hd,y⟩:=(h'.below hb).cell (by decide) k d;have z:∀j x,(roundK.cells ps[k])[j]?=some x→wr.cell? ⟨b,U+k*2+j,none⟩=some x:=hc;have A:∀j x,(roundK.cells qs[k])[j]?=some x→wr.cell? ⟨b',N+k*2+j,none⟩=some x:=hd;have c0:=z 0 (ps[k].vr) rfl;have d0:=A 0 (qs[k].vr) rfl;have c1:=z 1 (ps[k].vp) rfl;have d1:=A 1 (qs[k].vp) rfl;have L:RoundQ.e ps[k]=RoundQ.e qs[k]:=by
    have:=congrArg (·[k]?) he;simpa[C,d]using this
   have T:=z1u RoundQ.n ps k C;clear hc z hd A;generalize ps[k]=p at*;generalize qs[k]=p' at*;have I:=fun w h1 h2=>q1c p p' w h1 h2 L (show RoundQ.n p≤1048576 by omega)
   clear L T;rw[Nat.add_zero]at c0 d0;have k0:=z0f c0;have l0:=z0f d0;have k1:=z0f c1;have l1:=z0f d1;clear c0 d0 c1 d1;have hW:Below wr.heap.size wr wr.drew:=(Below.refl _ _).drew;have O:Nonempty (Lat wr):=⟨⟨wr,Below.refl _ _⟩⟩
   go_wp2_with fail
   refine z0e (S:=fun w'=>∃u:Lat wr,w'=u.val) (by kernel_rfl) ?_;refine sgr [(0,8)] 2 (by kernel_rfl) ⟨⟨_,hW⟩,rfl⟩ ?_;simp only[pkE];repeat go_big_quiet_step (fail)
   refine wpQuiet_nil ?_;refine cla 8 (some 25) 193 #[.agg #[p.vr,p.vp],.agg #[p'.vr,p'.vp]] 1 (by kernel_rfl) ?_;refine(I _ (roundK.rd_below M hW) (roundK.rd_below y hW)).mono ?_;rintro e w2 ⟨rfl,J⟩;replace hW:=hW.trans (J.mono hW.size);clear J;refine⟨_,rfl,⟨⟨_,hW⟩,rfl⟩,?_⟩;simp only[Act.put,pjE];refine sgr [(9,1)] 0 (by kernel_rfl) ⟨⟨_,hW⟩,rfl⟩ ?_;simp only[pkE];repeat go_big_quiet_step (fail)
   refine wpQuiet_nil ?_;refine z0i (by kernel_rfl) ?_;replace hb:=hb.trans (hW.mono hb.size);clear k0 l0 k1 l1 hW O M y I
   go_wp2
   go_roundw
   case rel=>exact⟨k+1,by omega,by go_num,hb⟩
   case measure=>simp[intOf];omega
  ·go_wp2
   go_ret;exact⟨rfl,hb⟩
theorem q0j(v:Value)(ps:List RoundQ)(w:World)(h:roundK.At w v ps)(hl:(ps.length+nmL RoundQ.n ps)≤1048576):
  Calls Tryz.prog 134 #[v] w fun e w'=>∃v' qs,e=.returned v'∧qs.map RoundQ.e=ps.map RoundQ.e∧roundK.Own w' v' qs∧(roundK.fp v' qs).Nodup∧(∀k∈roundK.fp v' qs,w.heap.size≤k)∧Below w.heap.size w w':=by
 obtain⟨a,cap,rfl⟩:=h.shape;obtain⟨i0,hi,aq,ar,au⟩:=info_parts q1a;have M:i0.bytes*ps.length≤281474976710656:=by rw[au];omega
 have ag:ps.length≤maxLen:=by unfold maxLen;omega
 go_enter Tryz.func134,Tryz.ntmps134
 go_wp2_with (at_make;refine wpList_make_full _ rfl _ _ 114 rfl w.heap.size 203 i0 (.agg #[.slice none 0 0,.slice none 0 0]) 2 Tryz.underlying114 hi aq ar _ _ _ _ ps.length rfl rfl rfl rfl M ag (Nat.le_refl _) ?_)
 intro w1 T I;have ab:Below w.heap.size w w1:=(Below.refl _ _).grown I (Nat.le_refl _) (by simp);have hO:roundK.Own w1 (.slice (some ⟨w.heap.size,0,none⟩) ps.length ps.length) (List.replicate ps.length (⟨.slice none 0 0,[],.slice none 0 0,[]⟩:RoundQ)):=by
  refine⟨?_,fun p hp=>?_⟩
  ·rw[List.length_replicate,←z4N (⟨.slice none 0 0,[],.slice none 0 0,[]⟩:RoundQ) _ (by decide)];exact z0o T (Nat.zero_le _)
  ·rw[(List.mem_replicate.1 hp).2];exact⟨⟨World.ownsRow_nil _ _ _ _,fun p hp=>by simp at hp⟩,⟨World.ownsRow_nil _ _ _ _,fun p hp=>by simp at hp⟩⟩
 have hF:roundK.fp (.slice (some ⟨w.heap.size,0,none⟩) ps.length ps.length) (List.replicate ps.length (⟨.slice none 0 0,[],.slice none 0 0,[]⟩:RoundQ))=[w.heap.size]:=z9C rfl;have HN:Hid ((roundK.fp (.slice (some ⟨w.heap.size,0,none⟩) ps.length ps.length) (List.replicate ps.length (⟨.slice none 0 0,[],.slice none 0 0,[]⟩:RoundQ))).Nodup):=by rw[hF];show List.Nodup _;simp
 have HG:Hid (∀x∈roundK.fp (.slice (some ⟨w.heap.size,0,none⟩) ps.length ps.length) (List.replicate ps.length (⟨.slice none 0 0,[],.slice none 0 0,[]⟩:RoundQ)),w.heap.size≤x):=by rw[hF];intro x hx;simp at hx;omega
 have HZ:Hid (∀j (hj:j<(List.replicate ps.length (⟨.slice none 0 0,[],.slice none 0 0,[]⟩:RoundQ)).length),0≤j→(List.replicate ps.length (⟨.slice none 0 0,[],.slice none 0 0,[]⟩:RoundQ))[j]=(⟨.slice none 0 0,[],.slice none 0 0,[]⟩:RoundQ)):=fun j hj _=>by simp
 have ah:(List.replicate ps.length (⟨.slice none 0 0,[],.slice none 0 0,[]⟩:RoundQ)).length=ps.length:=by simp
 clear T I hF;generalize List.replicate ps.length (⟨.slice none 0 0,[],.slice none 0 0,[]⟩:RoundQ)=al at*;have HE:Hid ((al.take 0).map RoundQ.e=(ps.take 0).map RoundQ.e):=show _=_ by simp
 go_wp2
 go_loopw [4] (fun i wr=>∃ (k:Nat) (qs:List RoundQ),k≤ps.length∧i=.int .i64 k∧Hid (qs.length=ps.length)∧Hid ((qs.take k).map RoundQ.e=(ps.take k).map RoundQ.e)∧Hid (∀ j (hj:j < qs.length),k≤j→qs[j]=(⟨.slice none 0 0,[],.slice none 0 0,[]⟩:RoundQ))∧roundK.Own wr (.slice (some ⟨w.heap.size,0,none⟩) ps.length ps.length) qs ∧
  Hid ((roundK.fp (.slice (some ⟨w.heap.size,0,none⟩) ps.length ps.length) qs).Nodup)∧Hid (∀ x∈roundK.fp (.slice (some ⟨w.heap.size,0,none⟩) ps.length ps.length) qs,w.heap.size≤x)∧Below w.heap.size w wr) (fun i _=>ps.length - (intOf i).toNat)
 case atStart=>exact⟨0,al,Nat.zero_le _,rfl,ah,HE,HZ,hO,HN,HG,ab⟩
 case round=>
  clear HE HZ hO HN HG ab ah;obtain⟨k,qs,hk,rfl,HQ,HE,HZ,hO,HN,HG,hb⟩:=hrel;by_cases Y:k<ps.length
  ·have c:k<qs.length:=by have:=HQ.out;omega
   have N:=HZ.out k c (Nat.le_refl _);obtain⟨b,av,rfl,aw,hc,ai⟩:=(h.below hb).cell (by decide) k Y;have V:∀j x,(roundK.cells ps[k])[j]?=some x→wr.cell? ⟨b,av+k*2+j,none⟩=some x:=hc;have c0:=V 0 (ps[k].vr) rfl;have c1:=V 1 (ps[k].vp) rfl;have az:=z1u RoundQ.n ps k Y;have aa:Hid (∀p':RoundQ,p'.e=RoundQ.e ps[k]→((qs.set k p').take (k+1)).map RoundQ.e=(ps.take (k+1)).map RoundQ.e):=by
    intro p' ao;have h1:=HE.out;rw[List.take_succ_eq_append_getElem Y,List.take_succ_eq_append_getElem (show k<(qs.set k p').length by simpa using c)];simp only[List.map_append,List.map_cons,List.map_nil,List.getElem_set_self,ao,List.take_set_of_le (Nat.le_refl k),h1]
   clear hc V;generalize ps[k]=p at*;have aj:=q1d p wr ai (by omega);rw[Nat.add_zero]at c0
   go_wp2_with fail
   refine aj.mono ?_;rintro e w2 ⟨p',rfl,Z,d,J,y,ad⟩;obtain⟨x0,y0,x1,y1⟩:=p';obtain⟨o0,o1⟩:intK.Own w2 x0 y0∧intK.Own w2 x1 y1:=And.intro d.1 d.2;obtain⟨a0,b0,rfl⟩:=o0.shape;obtain⟨a1,b1,rfl⟩:=o1.shape;clear o0 o1;dsimp only;generalize hP:(⟨.slice a0 y0.length b0,y0,.slice a1 y1.length b1,y1⟩:RoundQ)=p' at Z d J y;have W:roundK.cells p'=[.slice a0 y0.length b0,.slice a1 y1.length b1]:=by rw[←hP];rfl
   have C:=hO.below ad;obtain⟨e0,f0⟩:=C.cell k c 0 _ (by rw[N];rfl);obtain⟨e1,f1⟩:=C.cell k c 1 _ (by rw[N];rfl);have af:∀j,k*roundK.size+j=k*2+j:=fun j=>rfl
   rw[af]at e0 f0 e1 f1;rw[Nat.add_zero]at e0 f0;have z:=C.1;have hQ:=HQ.out;rw[hQ]at z;have A:=z16 z (k*2) [.slice a0 y0.length b0,.slice a1 y1.length b1];rw[←W]at A;have X:∀x∈roundK.fp (.slice (some ⟨w.heap.size,0,none⟩) ps.length ps.length) qs,x<wr.heap.size:=hO.lt;have ae:w.heap.size∈roundK.fp (.slice (some ⟨w.heap.size,0,none⟩) ps.length ps.length) qs:=by simp[Kind.fp,blk,Value.ownBlock]
   have ax:w.heap.size<wr.heap.size:=X _ ae;have L:=HN.out;have O:∀x∈roundK.foot p',x∉roundK.fp (.slice (some ⟨w.heap.size,0,none⟩) ps.length ps.length) qs:=fun x hx ap=>by have:=y x hx;have:=X x ap;omega
   have U:roundK.Own ((w2.setCell ⟨w.heap.size,k*2,none⟩ (.slice a0 y0.length b0)).setCell ⟨w.heap.size,k*2+1,none⟩ (.slice a1 y1.length b1)) (.slice (some ⟨w.heap.size,0,none⟩) ps.length ps.length) (qs.set k p'):=by
    refine Kind.Own.put C k c p' ?_ ((Out.setCell _ _ _ _).trans (Out.setCell _ _ _ _)) ?_ d ?_
    ·rw[hQ];rw[W]at A⊢;exact A
    ·intro q hq x hx ak;simp only[Kind.fp,blk,Value.ownBlock,Option.toList,List.cons_append,List.nil_append,List.nodup_cons]at L;exact L.1 (List.mem_flatMap.2 ⟨q,hq,ak▸hx⟩)
    ·intro x hx ak;have:=y x hx;omega
   have R:Hid (roundK.Own ((w2.setCell ⟨w.heap.size,k*2,none⟩ (.slice a0 y0.length b0)).setCell ⟨w.heap.size,k*2+1,none⟩ (.slice a1 y1.length b1)) (.slice (some ⟨w.heap.size,0,none⟩) ps.length ps.length) (qs.set k p')∧Below w.heap.size w ((w2.setCell ⟨w.heap.size,k*2,none⟩ (.slice a0 y0.length b0)).setCell ⟨w.heap.size,k*2+1,none⟩ (.slice a1 y1.length b1))):=by
    refine⟨U,?_⟩;have am:=hb.trans (ad.mono hb.size);exact((am.setCell (p:=⟨w.heap.size,k*2,none⟩) (Nat.le_refl _) _).setCell (p:=⟨w.heap.size,k*2+1,none⟩) (Nat.le_refl _) _)
   have R1:Hid ((roundK.fp (.slice (some ⟨w.heap.size,0,none⟩) ps.length ps.length) (qs.set k p')).Nodup):=z3v L k c p' (by rw[N];rfl) J O;have R2:Hid (∀x∈roundK.fp (.slice (some ⟨w.heap.size,0,none⟩) ps.length ps.length) (qs.set k p'),w.heap.size≤x):=by
    intro x hx;simp only[Kind.fp,List.mem_append]at hx;rcases hx with hx|hx
    ·exact HG.out x (by simp only[Kind.fp,List.mem_append];exact Or.inl hx)
    ·rcases z1K c hx with hx|hx
     ·exact HG.out x (by simp only[Kind.fp,List.mem_append];exact Or.inr hx)
     ·have:=y x hx;omega
   have R3:Hid (∀j (hj:j<(qs.set k p').length),k+1≤j→(qs.set k p')[j]=(⟨.slice none 0 0,[],.slice none 0 0,[]⟩:RoundQ)):=fun j hj ay=>by
    rw[List.getElem_set_ne (by omega)];exact HZ.out j (by simpa using hj) (by omega)
   have R4:Hid ((qs.set k p').length=ps.length):=by rw[List.length_set];exact HQ.out
   have R5:Hid (((qs.set k p').take (k+1)).map RoundQ.e=(ps.take (k+1)).map RoundQ.e):=aa.out p' Z;clear U A z hQ C hO HN HG HZ HE HQ aa L O d J y X ae hb N ai aj Z af W hP
   go_wp2
   go_roundw
   case rel=>exact⟨k+1,qs.set k p',by omega,by go_num,R4.out,R5.out,R3.out,R.out.1,R1.out,R2.out,R.out.2⟩
   case measure=>simp[intOf];omega
  ·have an:k=ps.length:=by omega
   subst an;have hQ:=HQ.out;have hE:=HE.out;rw[List.take_length,List.take_of_length_le (by omega)]at hE;clear HE HZ
   go_wp2
   go_ret;exact⟨_,qs,rfl,hE,hO,HN.out,HG.out,hb⟩
def InstQ.n(p:InstQ):Nat:=(p.batch.length+nmL TxnQ.n p.batch)+(p.rounds.length+nmL RoundQ.n p.rounds)+p.dec.length
def InstQ.wf(p:InstQ):Prop:=(p.batch.length≤9223372036854775807∧∀q∈p.batch,TxnQ.wf q)∧(p.rounds.length≤9223372036854775807∧∀q∈p.rounds,RoundQ.wf q)∧p.dec.length≤9223372036854775807
theorem z7L(p:InstQ)(c:Int)(w:World)(h:instK.rd w p)(hn:InstQ.wf p)(h0:0≤c)(h1:c≤1048576):
  Calls Tryz.prog 79 #[.agg #[.bool p.has,p.vb,p.vr,p.vd],.int .i64 c] w fun e w'=>∃r:Int,e=.returned (.int .i64 r)∧(¬r<0→(InstQ.n p:Int)+r=c)∧Below w.heap.size w w':=by
 obtain⟨has,vb,x,vr,d,vd,dec⟩:=p;obtain⟨N,O,T⟩:txnK.At w vb x∧roundK.At w vr d∧intK.At w vd dec:=h;obtain⟨y,z,U⟩:(x.length≤9223372036854775807∧∀p∈x,TxnQ.wf p)∧(d.length≤9223372036854775807∧∀p∈d,RoundQ.wf p)∧dec.length≤9223372036854775807:=hn;obtain⟨a1,k1,rfl⟩:=N.shape;obtain⟨a2,k2,rfl⟩:=O.shape;obtain⟨a3,k3,rfl⟩:=T.shape;have B:=Blk.new w 123 #[.bool has,.slice a1 x.length k1,.slice a2 d.length k2,.slice a3 dec.length k3];have hB:Below w.heap.size w (w.alloc (.cells #[.bool has,.slice a1 x.length k1,.slice a2 d.length k2,.slice a3 dec.length k3] 123)):=by go_grown
 dsimp only[InstQ.n];go_enter Tryz.func79,Tryz.ntmps79
 go_wp2_with fail
 generalize w.alloc (.cells #[.bool has,.slice a1 x.length k1,.slice a2 d.length k2,.slice a3 dec.length k3] 123)=W at*;refine(z6I _ x c W (N.below hB) y.1 y.2 (by omega) (by omega)).mono ?_;rintro e w1 ⟨r1,rfl,V,A⟩;replace B:=B.below A;replace hB:=hB.trans (A.mono hB.size);clear A;by_cases J:r1<0
 ·go_wp2
  go_ret;exact⟨_,rfl,fun h=>by omega,hB⟩
 have Z:=V J;clear V;have p2:=B.cell 2 _ rfl
 go_wp2_with fail
 clear p2;refine(q0h _ d r1 w1 (O.below hB) z.1 z.2 (by omega) (by omega)).mono ?_;rintro e w2 ⟨r2,rfl,X,C⟩;replace B:=B.below C;replace hB:=hB.trans (C.mono hB.size);clear C;by_cases L:r2<0
 ·go_wp2
  go_ret;exact⟨_,rfl,fun h=>by omega,hB⟩
 have aa:=X L;clear X;have p3:=B.cell 3 _ rfl
 go_wp2_with fail
 clear p3;refine(z6L _ dec r2 w2 (T.below hB) U (by omega) (by omega)).mono ?_;rintro e w3 ⟨r3,rfl,Y,I⟩;replace B:=B.below I;replace hB:=hB.trans (I.mono hB.size);clear I;by_cases M:r3<0
 ·go_wp2
  go_ret;exact⟨_,rfl,fun h=>by omega,hB⟩
 have ab:=Y M;clear Y
 go_wp2
 go_ret;exact⟨_,rfl,fun _=>by omega,hB⟩
theorem z7M(p p':InstQ)(w:World)(h:instK.rd w p)(h':instK.rd w p')(he:p.e=p'.e)(hl:InstQ.n p≤1048576):
  Calls Tryz.prog 83 #[.agg #[.bool p.has,p.vb,p.vr,p.vd],.agg #[.bool p'.has,p'.vb,p'.vr,p'.vd]] w fun e w'=>e=.returned (.bool true)∧Below w.heap.size w w':=by
 obtain⟨has,vb,y,vr,d,vd,dec⟩:=p;obtain⟨ah,ab,x,ae,c,ad,J⟩:=p';simp only[InstQ.e,InstE.mk.injEq]at he;obtain⟨af,L,M,ag⟩:=he;dsimp only[InstQ.n]at hl;obtain⟨U,V,X⟩:txnK.At w vb y∧roundK.At w vr d∧intK.At w vd dec:=h;obtain⟨N,O,T⟩:txnK.At w ab x∧roundK.At w ae c∧intK.At w ad J:=h';subst af;subst ag;have Y:=fun w h1 h2=>z6J vb ab y x w h1 h2 L (by omega)
 have Z:=fun w h1 h2=>q0i vr ae d c w h1 h2 M (by omega)
 have aa:=fun w h1 h2=>z6H vd ad dec w h1 h2 (by omega)
 obtain⟨a1,k1,rfl⟩:=U.shape;obtain⟨b1,m1,rfl⟩:=N.shape;obtain⟨a2,k2,rfl⟩:=V.shape;obtain⟨b2,m2,rfl⟩:=O.shape;obtain⟨a3,k3,rfl⟩:=X.shape;obtain⟨b3,m3,rfl⟩:=T.shape;have B:=(Blk.new w 117 #[.bool has,.slice a1 y.length k1,.slice a2 d.length k2,.slice a3 dec.length k3]).below (w':=(w.alloc (.cells #[.bool has,.slice a1 y.length k1,.slice a2 d.length k2,.slice a3 dec.length k3] 117)).alloc (.cells #[.bool has,.slice b1 x.length m1,.slice b2 c.length m2,.slice b3 dec.length m3] 117)) (by go_grown);have C:=Blk.new (w.alloc (.cells #[.bool has,.slice a1 y.length k1,.slice a2 d.length k2,.slice a3 dec.length k3] 117)) 117 #[.bool has,.slice b1 x.length m1,.slice b2 c.length m2,.slice b3 dec.length m3];have hB:Below w.heap.size w ((w.alloc (.cells #[.bool has,.slice a1 y.length k1,.slice a2 d.length k2,.slice a3 dec.length k3] 117)).alloc (.cells #[.bool has,.slice b1 x.length m1,.slice b2 c.length m2,.slice b3 dec.length m3] 117)):=by go_grown
 rw[World.size_alloc]at C;have n0:(has !=has)=false:=by simp
 clear L M;go_enter Tryz.func83,Tryz.ntmps83
 go_wp2_with fail
 generalize (w.alloc (.cells #[.bool has,.slice a1 y.length k1,.slice a2 d.length k2,.slice a3 dec.length k3] 117)).alloc (.cells #[.bool has,.slice b1 x.length m1,.slice b2 c.length m2,.slice b3 dec.length m3] 117)=W at*;refine(Y W (U.below hB) (N.below hB)).mono ?_;rintro e w1 ⟨rfl,z⟩;replace B:=B.below z;replace C:=C.below z;replace hB:=hB.trans (z.mono hB.size);clear z Y;have p2:=B.cell 2 _ rfl;have q2:=C.cell 2 _ rfl
 go_wp2_with fail
 clear p2 q2;refine(Z w1 (V.below hB) (O.below hB)).mono ?_;rintro e w2 ⟨rfl,A⟩;replace B:=B.below A;replace C:=C.below A;replace hB:=hB.trans (A.mono hB.size);clear A Z;have p3:=B.cell 3 _ rfl;have q3:=C.cell 3 _ rfl
 go_wp2_with fail
 clear p3 q3;refine(aa w2 (X.below hB) (T.below hB)).mono ?_;rintro e w3 ⟨rfl,I⟩;replace B:=B.below I;replace C:=C.below I;replace hB:=hB.trans (I.mono hB.size);clear I aa
 go_wp2
 go_ret;exact⟨rfl,hB⟩
theorem z7N(p:InstQ)(w:World)(h:instK.rd w p)(hl:InstQ.n p≤1048576):
  Calls Tryz.prog 81 #[.agg #[.bool p.has,p.vb,p.vr,p.vd]] w fun e w'=>∃p':InstQ,e=.returned (.agg #[.bool p'.has,p'.vb,p'.vr,p'.vd])∧p'.e=p.e∧instK.own w' p'∧(instK.foot p').Nodup∧(∀k∈instK.foot p',w.heap.size≤k)∧Below w.heap.size w w':=by
 obtain⟨has,vb,d,vr,c,vd,dec⟩:=p;dsimp only[InstQ.n]at hl;obtain⟨L,M,N⟩:txnK.At w vb d∧roundK.At w vr c∧intK.At w vd dec:=h;have O:=fun w h1=>z6K vb d w h1 (by omega)
 have T:=fun w h1=>q0j vr c w h1 (by omega)
 have U:=fun w h1=>z6G vd dec w h1 (by omega)
 obtain⟨a1,k1,rfl⟩:=L.shape;obtain⟨a2,k2,rfl⟩:=M.shape;obtain⟨a3,k3,rfl⟩:=N.shape;have B:=(Blk.new w 123 #[.bool has,.slice a1 d.length k1,.slice a2 c.length k2,.slice a3 dec.length k3]).below (w':=((w.alloc (.cells #[.bool has,.slice a1 d.length k1,.slice a2 c.length k2,.slice a3 dec.length k3] 123)).alloc (.cells #[.bool false,.slice none 0 0,.slice none 0 0,.slice none 0 0] 117)).alloc (.cells #[.bool has,.slice none 0 0,.slice none 0 0,.slice none 0 0] 117)) (by go_grown);have C:=(Blk.new (w.alloc (.cells #[.bool has,.slice a1 d.length k1,.slice a2 c.length k2,.slice a3 dec.length k3] 123)) 117 #[.bool false,.slice none 0 0,.slice none 0 0,.slice none 0 0]).below (w':=((w.alloc (.cells #[.bool has,.slice a1 d.length k1,.slice a2 c.length k2,.slice a3 dec.length k3] 123)).alloc (.cells #[.bool false,.slice none 0 0,.slice none 0 0,.slice none 0 0] 117)).alloc (.cells #[.bool has,.slice none 0 0,.slice none 0 0,.slice none 0 0] 117)) (by go_grown);have D:=Blk.new ((w.alloc (.cells #[.bool has,.slice a1 d.length k1,.slice a2 c.length k2,.slice a3 dec.length k3] 123)).alloc (.cells #[.bool false,.slice none 0 0,.slice none 0 0,.slice none 0 0] 117)) 117 #[.bool has,.slice none 0 0,.slice none 0 0,.slice none 0 0];have hB:Below w.heap.size w (((w.alloc (.cells #[.bool has,.slice a1 d.length k1,.slice a2 c.length k2,.slice a3 dec.length k3] 123)).alloc (.cells #[.bool false,.slice none 0 0,.slice none 0 0,.slice none 0 0] 117)).alloc (.cells #[.bool has,.slice none 0 0,.slice none 0 0,.slice none 0 0] 117)):=by go_grown
 simp only[World.size_alloc]at C D;have hS:w.heap.size+3≤(((w.alloc (.cells #[.bool has,.slice a1 d.length k1,.slice a2 c.length k2,.slice a3 dec.length k3] 123)).alloc (.cells #[.bool false,.slice none 0 0,.slice none 0 0,.slice none 0 0] 117)).alloc (.cells #[.bool has,.slice none 0 0,.slice none 0 0,.slice none 0 0] 117)).heap.size:=by simp only[World.size_alloc];omega
 go_enter Tryz.func81,Tryz.ntmps81
 go_wp2_with fail
 generalize ((w.alloc (.cells #[.bool has,.slice a1 d.length k1,.slice a2 c.length k2,.slice a3 dec.length k3] 123)).alloc (.cells #[.bool false,.slice none 0 0,.slice none 0 0,.slice none 0 0] 117)).alloc (.cells #[.bool has,.slice none 0 0,.slice none 0 0,.slice none 0 0] 117)=W at*;refine(O W (L.below hB)).mono ?_;rintro e y1 ⟨v1,q1,rfl,E1,O1,N1,G1,hb⟩;replace B:=B.below hb;replace C:=C.below hb;replace D:=D.below hb;replace hB:=hB.trans (hb.mono hB.size);have s1:=hb.size;obtain⟨x1,z1,rfl⟩:=O1.shape;clear hb O;have p2:=B.cell 2 _ rfl;have d1:=D.cell 1 _ rfl;have f1:=D.frozen 1
 go_wp2_with fail
 clear p2 d1 f1;have U1:=(Out.refl [w.heap.size+1,w.heap.size+1+1] y1).set (b:=w.heap.size+1+1) (j:=1) (u:=.slice x1 q1.length z1) (by simp);replace D:=D.set 1 (.slice x1 q1.length z1);replace B:=B.other (b':=w.heap.size+1+1) (by omega) 1 (.slice x1 q1.length z1);replace C:=C.other (b':=w.heap.size+1+1) (by omega) 1 (.slice x1 q1.length z1);replace hB:=hB.setCell (p:=⟨w.heap.size+1+1,1,none⟩) (by show w.heap.size≤w.heap.size+1+1;omega) (.slice x1 q1.length z1);simp only[pjE]at D;have t1:=U1.size;generalize y1.setCell ⟨w.heap.size+1+1,1,none⟩ (.slice x1 q1.length z1)=V1 at*;refine(T V1 (M.below hB)).mono ?_;rintro e y2 ⟨v2,q2,rfl,E2,O2,N2,G2,hb⟩;replace U1:=U1.call hb;replace B:=B.below hb;replace C:=C.below hb;replace D:=D.below hb;replace hB:=hB.trans (hb.mono hB.size);have s2:=hb.size;obtain⟨x2,z2,rfl⟩:=O2.shape;clear hb T;have p3:=B.cell 3 _ rfl;have d2:=D.cell 2 _ rfl;have f2:=D.frozen 2
 go_wp2_with fail
 clear p3 d2 f2;have U2:=(Out.refl [w.heap.size+1,w.heap.size+1+1] y2).set (b:=w.heap.size+1+1) (j:=2) (u:=.slice x2 q2.length z2) (by simp);replace U1:=U1.set (b:=w.heap.size+1+1) (j:=2) (u:=.slice x2 q2.length z2) (by simp);replace D:=D.set 2 (.slice x2 q2.length z2);replace B:=B.other (b':=w.heap.size+1+1) (by omega) 2 (.slice x2 q2.length z2);replace C:=C.other (b':=w.heap.size+1+1) (by omega) 2 (.slice x2 q2.length z2);replace hB:=hB.setCell (p:=⟨w.heap.size+1+1,2,none⟩) (by show w.heap.size≤w.heap.size+1+1;omega) (.slice x2 q2.length z2);simp only[pjE]at D;have t2:=U2.size;generalize y2.setCell ⟨w.heap.size+1+1,2,none⟩ (.slice x2 q2.length z2)=V2 at*;refine(U V2 (N.below hB)).mono ?_;rintro e y3 ⟨v3,rfl,O3,N3,G3,hb⟩;replace U1:=U1.call hb;replace U2:=U2.call hb;replace B:=B.below hb;replace C:=C.below hb;replace D:=D.below hb;replace hB:=hB.trans (hb.mono hB.size);have s3:=hb.size;obtain⟨x3,z3,rfl⟩:=O3.shape;clear hb U;clear B;have d0:=D.cell 0 _ rfl;have f0:=D.frozen 0;have c0:=C.cell 0 _ rfl;have g0:=C.frozen 0;have d1:=D.cell 1 _ rfl;have f1:=D.frozen 1;have c1:=C.cell 1 _ rfl;have g1:=C.frozen 1;have d2:=D.cell 2 _ rfl;have f2:=D.frozen 2;have c2:=C.cell 2 _ rfl;have g2:=C.frozen 2;have d3:=D.cell 3 _ rfl;have f3:=D.frozen 3;have c3:=C.cell 3 _ rfl;have g3:=C.frozen 3;have R:Hid (∀j u j' u' I J z A x y,instK.own (((((y3.setCell ⟨w.heap.size+1+1,j,none⟩ u).setCell ⟨w.heap.size+1,j',none⟩ u').setCell ⟨w.heap.size+1,I,none⟩ J).setCell ⟨w.heap.size+1,z,none⟩ A).setCell ⟨w.heap.size+1,x,none⟩ y) ⟨has,.slice x1 q1.length z1,q1,.slice x2 q2.length z2,q2,.slice x3 dec.length z3,dec⟩∧Below w.heap.size w (((((y3.setCell ⟨w.heap.size+1+1,j,none⟩ u).setCell ⟨w.heap.size+1,j',none⟩ u').setCell ⟨w.heap.size+1,I,none⟩ J).setCell ⟨w.heap.size+1,z,none⟩ A).setCell ⟨w.heap.size+1,x,none⟩ y)):=by
  intro j u j' u' I J z A x y;have X1:=(((((U1.set (b:=w.heap.size+1+1) (j:=j) (u:=u) (by simp)).set (b:=w.heap.size+1) (j:=j') (u:=u') (by simp)).set (b:=w.heap.size+1) (j:=I) (u:=J) (by simp)).set (b:=w.heap.size+1) (j:=z) (u:=A) (by simp)).set (b:=w.heap.size+1) (j:=x) (u:=y) (by simp))
  have X2:=(((((U2.set (b:=w.heap.size+1+1) (j:=j) (u:=u) (by simp)).set (b:=w.heap.size+1) (j:=j') (u:=u') (by simp)).set (b:=w.heap.size+1) (j:=I) (u:=J) (by simp)).set (b:=w.heap.size+1) (j:=z) (u:=A) (by simp)).set (b:=w.heap.size+1) (j:=x) (u:=y) (by simp))
  have X3:=((((((Out.refl [w.heap.size+1,w.heap.size+1+1] y3).set (b:=w.heap.size+1+1) (j:=j) (u:=u) (by simp)).set (b:=w.heap.size+1) (j:=j') (u:=u') (by simp)).set (b:=w.heap.size+1) (j:=I) (u:=J) (by simp)).set (b:=w.heap.size+1) (j:=z) (u:=A) (by simp)).set (b:=w.heap.size+1) (j:=x) (u:=y) (by simp))
  refine⟨⟨O1.out X1 (fun k hk=>?_),O2.out X2 (fun k hk=>?_),O3.out X3 (fun k hk=>?_)⟩,?_⟩
  ·have:=G1 k hk;simp only[List.mem_cons,List.not_mem_nil,or_false];omega
  ·have:=G2 k hk;simp only[List.mem_cons,List.not_mem_nil,or_false];omega
  ·have:=G3 k hk;simp only[List.mem_cons,List.not_mem_nil,or_false];omega
  ·exact(((((hB.setCell (p:=⟨w.heap.size+1+1,j,none⟩) (by show w.heap.size≤w.heap.size+1+1;omega) u).setCell (p:=⟨w.heap.size+1,j',none⟩) (by show w.heap.size≤w.heap.size+1;omega) u').setCell (p:=⟨w.heap.size+1,I,none⟩) (by show w.heap.size≤w.heap.size+1;omega) J).setCell (p:=⟨w.heap.size+1,z,none⟩) (by show w.heap.size≤w.heap.size+1;omega) A).setCell (p:=⟨w.heap.size+1,x,none⟩) (by show w.heap.size≤w.heap.size+1;omega) y)
 have R1:Hid ((instK.foot ⟨has,.slice x1 q1.length z1,q1,.slice x2 q2.length z2,q2,.slice x3 dec.length z3,dec⟩).Nodup∧(∀k∈instK.foot ⟨has,.slice x1 q1.length z1,q1,.slice x2 q2.length z2,q2,.slice x3 dec.length z3,dec⟩,w.heap.size≤k)):=by
  have L1:=O1.lt;have L2:=O2.lt;have L3:=O3.lt;have T1:=U1.size;have T2:=U2.size;refine⟨?_,?_⟩
  ·show List.Nodup (_++_);exact List.nodup_append.2 ⟨N1,List.nodup_append.2 ⟨N2,N3,z6M (m:=(V2).heap.size) (fun k hk=>by have:=L2 k hk;omega) (fun k hk=>by have:=G3 k hk;omega)⟩,z6M (m:=(V1).heap.size) (fun k hk=>by have:=L1 k hk;omega) (fun k hk=>by rcases List.mem_append.1 hk with hk|hk<;>first|(have:=G2 k hk;omega)|(have:=G3 k hk;omega))⟩
  ·exact(fun k hk=>by rcases List.mem_append.1 hk with hk|hk<;>first|(have:=G1 k hk;omega)|(rcases List.mem_append.1 hk with hk|hk<;>first|(have:=G2 k hk;omega)|(have:=G3 k hk;omega)))
 have R2:Hid (InstQ.e ⟨has,.slice x1 q1.length z1,q1,.slice x2 q2.length z2,q2,.slice x3 dec.length z3,dec⟩=InstQ.e ⟨has,.slice a1 d.length k1,d,.slice a2 c.length k2,c,.slice a3 dec.length k3,dec⟩):=show _=_ by simp only[InstQ.e,E1,E2]
 clear O1 N1 G1 O2 N2 G2 O3 N3 G3 U1 U2 E1 E2 hB C D L M N
 go_wp2
 exact bodyPost_ret (v:=.agg #[.bool has,.slice x1 q1.length z1,.slice x2 q2.length z2,.slice x3 dec.length z3]) (by simp[results,Tryz.results81,go_sem,c0,c1,c2,c3]) rfl ⟨⟨has,.slice x1 q1.length z1,q1,.slice x2 q2.length z2,q2,.slice x3 dec.length z3,dec⟩,rfl,R2.out,(R.out _ _ _ _ _ _ _ _ _ _).1,R1.out.1,R1.out.2,(R.out _ _ _ _ _ _ _ _ _ _).2⟩
end Go.Proofs.YtlkpdgjnhkjpjaaGreatDoor

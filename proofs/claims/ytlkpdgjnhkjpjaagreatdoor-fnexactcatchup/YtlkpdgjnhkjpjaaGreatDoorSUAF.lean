import Derived.Test.YtlkpdgjnhkjpjaaGreatDoorSUAE
import Derived.Shelf.SortM.Plain
import Derived.Shelf.SortM.SortNone
import Derived.Shelf.SlicesG.In.CompactI
import Derived.Shelf.SlIterI.Nil
set_option linter.unusedVariables false
set_option linter.unusedSimpArgs false
set_option maxRecDepth 100000
set_option maxHeartbeats 2000000
namespace Go.Proofs.YtlkpdgjnhkjpjaaGreatDoor
open Go.RowKit Go.BigFrame
open List renaming getD->g
open IntKind renaming i64->G
open Value renaming int->B,slice->t
open Go.Proofs.Tryz renaming prog->m
open Go.Proofs.Tryz
section
open Go.Sort Go.Shelf
def q0X:Go.Shelf.Ren:=⟨fun|5=>285|8=>298|7=>297|19=>313|20=>314|10=>304|11=>305|12=>306|13=>307|14=>308|15=>309|16=>310|17=>311|18=>312|30=>319|31=>320|32=>321|33=>322|34=>323|35=>324|40=>327|n=>n,fun|23=>115|25=>2|3=>3|32=>370|22=>115|0=>0|44=>388|46=>378|4=>4|36=>381|35=>380|41=>385|5=>5|9=>9|53=>396|57=>400|63=>404|64=>405|n=>n,fun|n=>n⟩
theorem q1Y:Go.Proofs.SlLaysM.n5 m q0X:={
 mixed:=by kernel_rfl,
 f5:=⟨Tryz.f285.name,by decide,func285.trans (congrArg some (by kernel_rfl))⟩,
 f7:=⟨Tryz.f297.name,by decide,func297.trans (congrArg some (by kernel_rfl))⟩,
 f8:=func298.trans (congrArg some (by kernel_rfl)),
 f10:=⟨Tryz.f304.name,by decide,func304.trans (congrArg some (by kernel_rfl))⟩,
 f11:=⟨Tryz.f305.name,by decide,func305.trans (congrArg some (by kernel_rfl))⟩,
 f12:=⟨Tryz.f306.name,by decide,func306.trans (congrArg some (by kernel_rfl))⟩,
 f13:=⟨Tryz.f307.name,by decide,func307.trans (congrArg some (by kernel_rfl))⟩,
 f14:=⟨Tryz.f308.name,by decide,func308.trans (congrArg some (by kernel_rfl))⟩,
 f15:=⟨Tryz.f309.name,by decide,func309.trans (congrArg some (by kernel_rfl))⟩,
 f16:=⟨Tryz.f310.name,by decide,func310.trans (congrArg some (by kernel_rfl))⟩,
 f17:=⟨Tryz.f311.name,by decide,func311.trans (congrArg some (by kernel_rfl))⟩,
 f18:=⟨Tryz.f312.name,by decide,func312.trans (congrArg some (by kernel_rfl))⟩,
 f19:=func313.trans (congrArg some (by kernel_rfl)),
 f20:=func314.trans (congrArg some (by kernel_rfl)),
 f30:=⟨Tryz.f319.name,by decide,func319.trans (congrArg some (by kernel_rfl))⟩,
 f31:=func320.trans (congrArg some (by kernel_rfl)),
 f32:=func321.trans (congrArg some (by kernel_rfl)),
 f33:=⟨Tryz.f322.name,by decide,func322.trans (congrArg some (by kernel_rfl))⟩,
 f34:=⟨Tryz.f323.name,by decide,func323.trans (congrArg some (by kernel_rfl))⟩,
 f35:=⟨Tryz.f324.name,by decide,func324.trans (congrArg some (by kernel_rfl))⟩,
 f40:=⟨Tryz.f327.name,by decide,func327.trans (congrArg some (by kernel_rfl))⟩,
 t0:=Tryz.underlying0,
 a0:=Tryz.isAgg0,
 z0:=Tryz.sizeOf0,
 v0:=Tryz.zeroValue0,
 t3:=Tryz.underlying3,
 a3:=Tryz.isAgg3,
 z3:=Tryz.sizeOf3,
 v3:=Tryz.zeroValue3,
 t4:=Tryz.underlying4,
 a4:=Tryz.isAgg4,
 z4:=Tryz.sizeOf4,
 v4:=Tryz.zeroValue4,
 t5:=Tryz.underlying5,
 a5:=Tryz.isAgg5,
 z5:=Tryz.sizeOf5,
 v5:=Tryz.zeroValue5,
 t9:=Tryz.underlying9,
 a9:=Tryz.isAgg9,
 z9:=Tryz.sizeOf9,
 v9:=Tryz.zeroValue9,
 t22:=Tryz.underlying115,
 a22:=Tryz.isAgg115,
 z22:=Tryz.sizeOf115,
 v22:=Tryz.zeroValue115,
 t23:=Tryz.underlying115,
 a23:=Tryz.isAgg115,
 z23:=Tryz.sizeOf115,
 v23:=Tryz.zeroValue115,
 t25:=Tryz.underlying2,
 a25:=Tryz.isAgg2,
 z25:=Tryz.sizeOf2,
 v25:=Tryz.zeroValue2,
 t32:=Tryz.underlying370,
 a32:=Tryz.isAgg370,
 z32:=Tryz.sizeOf370,
 v32:=Tryz.zeroValue370,
 t35:=Tryz.underlying380,
 a35:=Tryz.isAgg380,
 z35:=Tryz.sizeOf380,
 v35:=Tryz.zeroValue380,
 t36:=Tryz.underlying381,
 a36:=Tryz.isAgg381,
 z36:=Tryz.sizeOf381,
 v36:=Tryz.zeroValue381,
 t41:=Tryz.underlying385,
 a41:=Tryz.isAgg385,
 z41:=Tryz.sizeOf385,
 v41:=Tryz.zeroValue385,
 t44:=Tryz.underlying388,
 a44:=Tryz.isAgg388,
 z44:=Tryz.sizeOf388,
 v44:=Tryz.zeroValue388,
 t46:=Tryz.underlying378,
 a46:=Tryz.isAgg378,
 z46:=Tryz.sizeOf378,
 v46:=Tryz.zeroValue378,
 t53:=Tryz.underlying396,
 a53:=Tryz.isAgg396,
 z53:=Tryz.sizeOf396,
 v53:=Tryz.zeroValue396,
 t57:=Tryz.underlying400,
 a57:=Tryz.isAgg400,
 z57:=Tryz.sizeOf400,
 v57:=Tryz.zeroValue400,
 t63:=Tryz.underlying404,
 a63:=Tryz.isAgg404,
 z63:=Tryz.sizeOf404,
 v63:=Tryz.zeroValue404,
 t64:=Tryz.underlying405,
 a64:=Tryz.isAgg405,
 z64:=Tryz.sizeOf405,
 v64:=Tryz.zeroValue405 }
def q0Y:Go.Shelf.Ren:=⟨fun|43=>287|n=>n,fun|22=>115|23=>2|3=>3|4=>4|0=>0|n=>n,fun|n=>n⟩
theorem q59:Go.Proofs.SlLaysN.n43 m q0Y:={
 mixed:=by kernel_rfl,
 f43:=⟨Tryz.f287.name,by decide,func287.trans (congrArg some (by kernel_rfl))⟩,
 t0:=Tryz.underlying0,
 a0:=Tryz.isAgg0,
 z0:=Tryz.sizeOf0,
 v0:=Tryz.zeroValue0,
 t3:=Tryz.underlying3,
 a3:=Tryz.isAgg3,
 z3:=Tryz.sizeOf3,
 v3:=Tryz.zeroValue3,
 t4:=Tryz.underlying4,
 a4:=Tryz.isAgg4,
 z4:=Tryz.sizeOf4,
 v4:=Tryz.zeroValue4,
 t22:=Tryz.underlying115,
 a22:=Tryz.isAgg115,
 z22:=Tryz.sizeOf115,
 v22:=Tryz.zeroValue115,
 t23:=Tryz.underlying2,
 a23:=Tryz.isAgg2,
 z23:=Tryz.sizeOf2,
 v23:=Tryz.zeroValue2,
 i23:=by kernel_rfl }
end
section
open Go.Maps Go.Sort Go.Shelf
def z6v:Go.Shelf.Ren:=⟨fun|7=>272|10=>286|n=>n,fun|23=>309|26=>2|3=>2|28=>366|0=>0|27=>365|33=>323|4=>4|n=>n,fun|n=>n⟩
theorem q4s:Go.Proofs.SlLaysZI.n7 m z6v:={
 mixed:=by kernel_rfl,
 f7:=⟨Tryz.f272.name,by decide,func272.trans (congrArg some (by kernel_rfl))⟩,
 f10:=⟨Tryz.f286.name,by decide,func286.trans (congrArg some (by kernel_rfl))⟩,
 t0:=Tryz.underlying0,
 a0:=Tryz.isAgg0,
 z0:=Tryz.sizeOf0,
 v0:=Tryz.zeroValue0,
 t4:=Tryz.underlying4,
 a4:=Tryz.isAgg4,
 z4:=Tryz.sizeOf4,
 v4:=Tryz.zeroValue4,
 t23:=Tryz.underlying309,
 a23:=Tryz.isAgg309,
 z23:=Tryz.sizeOf309,
 v23:=Tryz.zeroValue309,
 t26:=Tryz.underlying2,
 a26:=Tryz.isAgg2,
 z26:=Tryz.sizeOf2,
 v26:=Tryz.zeroValue2,
 t27:=Tryz.underlying365,
 a27:=Tryz.isAgg365,
 z27:=Tryz.sizeOf365,
 v27:=Tryz.zeroValue365,
 t28:=Tryz.underlying366,
 a28:=Tryz.isAgg366,
 z28:=Tryz.sizeOf366,
 v28:=Tryz.zeroValue366,
 t33:=Tryz.underlying323,
 a33:=Tryz.isAgg323,
 z33:=Tryz.sizeOf323,
 v33:=Tryz.zeroValue323 }
def z4v:Go.Shelf.Ren:=⟨fun|6=>271|8=>284|9=>285|11=>296|13=>298|12=>297|23=>313|24=>314|14=>304|15=>305|16=>306|17=>307|18=>308|19=>309|20=>310|21=>311|22=>312|25=>319|26=>320|27=>321|28=>322|29=>323|30=>324|31=>327|n=>n,fun|26=>2|28=>366|24=>115|0=>0|3=>3|37=>370|48=>388|50=>378|4=>4|40=>381|39=>380|45=>385|5=>5|9=>9|51=>396|55=>400|57=>404|58=>405|33=>323|n=>n,fun|n=>n⟩
theorem q3G:Go.Proofs.SlLaysZI.n6 m z4v:={
 mixed:=by kernel_rfl,
 f6:=⟨Tryz.f271.name,by decide,func271.trans (congrArg some (by kernel_rfl))⟩,
 f8:=⟨Tryz.f284.name,by decide,func284.trans (congrArg some (by kernel_rfl))⟩,
 f11:=⟨Tryz.f296.name,by decide,func296.trans (congrArg some (by kernel_rfl))⟩,
 t0:=Tryz.underlying0,
 a0:=Tryz.isAgg0,
 z0:=Tryz.sizeOf0,
 v0:=Tryz.zeroValue0,
 t24:=Tryz.underlying115,
 a24:=Tryz.isAgg115,
 z24:=Tryz.sizeOf115,
 v24:=Tryz.zeroValue115,
 t26:=Tryz.underlying2,
 a26:=Tryz.isAgg2,
 z26:=Tryz.sizeOf2,
 v26:=Tryz.zeroValue2,
 t28:=Tryz.underlying366,
 a28:=Tryz.isAgg366,
 z28:=Tryz.sizeOf366,
 v28:=Tryz.zeroValue366,
 i26:=by kernel_rfl }
end
theorem q3H{n lo hi:Int}:inW n lo hi=true↔lo≤n∧n≤hi:=by simp[inW]
theorem q1Z{zs:List ActD}(h:z3c zs=0):∀z∈zs,actF z=0:=by
 induction zs with
 |nil=>simp
 |cons x r ih=>
  simp only[z3c]at h;split at h
  ·rename_i hx
   intro z hz;rcases List.mem_cons.1 hz with rfl|hz
   ·exact hx
   ·exact ih h z hz
  ·rename_i hx;exact absurd h hx
theorem z3H{i s q:Int}{zs:List ActD}(h:txnF i s q zs=0):(1≤i∧i≤200)∧(1≤s∧s≤9)∧(1≤q∧q≤99)∧(1≤zs.length∧zs.length≤4)∧∀z∈zs,actF z=0:=by
 unfold txnF at h;split at h
 ·simp at h
 ·rename_i h1
  split at h
  ·simp at h
  ·rename_i h2
   simp only[not_or,Bool.not_eq_false,q3H]at h1;exact⟨h1.1,h1.2.1,h1.2.2,by omega,q1Z h⟩
theorem Box4.cells{w:World}{b o:Nat}{x0 x1 x2 x3:Value}(h:Box4 w b o x0 x1 x2 x3):b<w.heap.size:=World.block_lt_of_cell? w ⟨b,o,none⟩ h.c0
structure Box2 (w:World) (b:Nat) (x y:Value):Prop where
 lt:b<w.heap.size
 c0:w.cell? ⟨b,0,none⟩=some x
 c1:w.cell? ⟨b,1,none⟩=some y
 f0:w.frozen? ⟨b,0,none⟩=false
 f1:w.frozen? ⟨b,1,none⟩=false
theorem Box2.below{w w':World}{b:Nat}{x y:Value}(h:Box2 w b x y)(hb:Below w.heap.size w w'):Box2 w' b x y:=
 ⟨Nat.lt_of_lt_of_le h.lt hb.size,by rw[hb.cell (p:=⟨b,0,none⟩) h.lt];exact h.c0,by rw[hb.cell (p:=⟨b,1,none⟩) h.lt];exact h.c1,by rw[hb.frozen (p:=⟨b,0,none⟩) h.lt];exact h.f0,by rw[hb.frozen (p:=⟨b,1,none⟩) h.lt];exact h.f1⟩
def TxnD.F(d:TxnD):Int:=txnF d.id d.session d.seq d.acts
def allF:List TxnD→Int
 |[]=>0
 |d::r=>if d.F=0 then allF r else d.F
def z9b(ds:List TxnD):Int:=if 60<ds.length then 2 else allF ds
def idsR(ds:List TxnD):List Int:=if z9b ds=0 then ds.map TxnD.id else []
def idsL(ds:List TxnD)(k:Nat):List Int:=(ds.take k).map TxnD.id
theorem z8f(ds:List TxnD)(k:Nat)(h:k<ds.length):idsL ds (k+1)=idsL ds k++[(ds.getD k z0m).id]:=by
 have e:ds.getD k z0m=ds[k]:=by simp[g,h]
 rw[idsL,idsL,List.take_succ_eq_append_getElem h,e];simp only[List.map_append,List.map_cons,List.map_nil]
theorem z5n(ds:List TxnD)(k:Nat)(h:k≤ds.length):(idsL ds k).length=k:=by simp[idsL];omega
theorem q41(ds:List TxnD):(idsR ds).length≤ds.length:=by
 unfold idsR;split<;>simp
theorem z6w(ds:List TxnD):∀k,(∀j,j<k→(ds.getD j z0m).F=0)→k<ds.length→(ds.getD k z0m).F≠0→allF ds=(ds.getD k z0m).F:=by
 induction ds with
 |nil=>intro k _ h;simp at h
 |cons x r ih=>
  intro k h0 hk hne
  cases k with
  |zero=>simp[g]at hne⊢;simp[allF,hne]
  |succ k=>
   have hx:x.F=0:=by simpa[g]using h0 0 (by omega)
   have:=ih k (fun j hj=>by simpa[g]using h0 (j+1) (by omega)) (by simpa using hk) (by simpa[g]using hne);simp only[allF,hx,if_true];rw[this];simp[g]
theorem z8g(ds:List TxnD)(h:∀j,j<ds.length→(ds.getD j z0m).F=0):allF ds=0:=by
 induction ds with
 |nil=>rfl
 |cons x r ih=>
  have hx:x.F=0:=by simpa[g]using h 0 (by simp)
  simp only[allF,hx,if_true];exact ih (fun j hj=>by simpa[g]using h (j+1) (by simpa using hj))
theorem TxnsAt.box{w:World}{b off i:Nat}{z:TxnD}{aa:Option Addr}{cc:Nat}(h0:w.cell? ⟨b,off+i*4,none⟩=some (B G z.id))(h1:w.cell? ⟨b,off+i*4+1,none⟩=some (B G z.session))(h2:w.cell? ⟨b,off+i*4+2,none⟩=some (B G z.seq))
  (h3:w.cell? ⟨b,off+i*4+3,none⟩=some (t aa z.acts.length cc)):Box4 w b (off+i*4) (B G z.id) (B G z.session) (B G z.seq) (t aa z.acts.length cc):=⟨h0,h1,h2,h3⟩
theorem q10(v:Value)(ds:List TxnD)(w:World)(h:TxnsAt w v ds)(hl:ds.length≤60):
  Calls m 251 #[v] w fun e w'=>∃b c,e=.returned (.slice b (ds.map TxnD.id).length c)∧w'.ownsRow w.heap.size 2 1 (.slice b (ds.map TxnD.id).length c) (ds.map TxnD.id).length ((ds.map TxnD.id).map (Value.int .i64))∧Below w.heap.size w w':=by
 obtain⟨a,cap,rfl⟩:=h.shape;obtain⟨i0,hi,N,O,T⟩:=info_parts z6P;go_enter func251,ntmps251
 go_wp2
 go_loopw[3,4] (fun v j wr=>∃k:Nat,k≤ds.length∧j=B G k∧wr.ownsRow w.heap.size 2 1 v (idsL ds k).length ((idsL ds k).map (Value.int .i64))∧Below w.heap.size w wr) (fun _ j _=>ds.length-(intOf j).toNat)
 case atStart=>exact⟨0,Nat.zero_le _,rfl,by first|exact World.ownsRow_lit w #[] 0 (Nat.le_refl _) (by decide) rfl|(simp[idsL];exact World.ownsRow_lit w #[] 0 (Nat.le_refl _) (by decide) rfl),by go_grown⟩
 case round=>
  obtain⟨k,hk,rfl,ho,hb⟩:=hrel;have M:=hb.size;have L:(idsL ds k).length≤60:=by rw[z5n ds k hk];omega
  obtain⟨a1,c1,rfl⟩:=z0g ho;by_cases C:k<ds.length
  ·have E:Hid (idsL ds (k+1)=idsL ds k++[(ds.getD k z0m).id]):=z8f ds k C;obtain⟨b,V,aa,cc,rfl,U,I,_⟩:=(h.below hb).at k C;generalize (ds.getD k z0m).id=z at I E;have y:Below w.heap.size wr (wr.alloc (.cells #[B G z] 2)):=(Below.refl _ _).alloc M _;have D:=ho.alloc (.cells #[B G z] 2)
   go_wp2_with (at_builtin;refine wpList_append_own _ rfl _ _ 115 rfl w.heap.size 2 i0 (B G 0) 1 8 Tryz.underlying115 hi N O T rfl (by decide) _ (idsL ds k).length ((idsL ds k).map (Value.int .i64)) rfl D ⟨wr.heap.size,0,none⟩ 1 1 [B G z] rfl rfl ?c1 ?c2 ?c3 ?c4 ?c5 ?_)
   all_goals try
    (case c1=>intro j u hj;match j,hj with|0,hj=>simp at hj;subst hj;simp[Addr.add])
   all_goals try(case c2=>first|rfl|(intro u hu;simp at hu;subst hu;rfl))
   all_goals try(case c3=>unfold maxLen;omega)
   all_goals try(case c4=>omega)
   all_goals try(case c5=>first|omega|(simp;omega))
   intro v' w2 x d _;obtain⟨a2,c2,rfl⟩:=z0g x;have A:Below w.heap.size wr w2:=y.grown d (by simp;omega) (fun j hj=>(ho.lt j hj).1);clear y d D ho;have R:Hid (w2.ownsRow w.heap.size 2 1 (t a2 ((idsL ds k).length+1) c2) ((idsL ds k).length+1) ((idsL ds k++[z]).map (Value.int .i64))∧Below w.heap.size w w2):=⟨by simpa using x,hb.trans A⟩
   clear x A
   go_wp2
   go_roundw
   case rel=>
    refine⟨k+1,by omega,by go_num,?_,R.out.2⟩;rw[E.out];simpa using R.out.1
   case measure=>simp[intOf];omega
  ·have J:k=ds.length:=by omega
   subst J;have e:idsL ds ds.length=ds.map TxnD.id:=by simp[idsL]
   rw[e]at ho;clear L
   go_wp2
   go_ret;rw[e];exact⟨_,_,rfl,ho,hb⟩
theorem q3I{ds:List TxnD}(h:z9b ds=0):ds.length≤60:=by
 unfold z9b at h;split at h
 ·simp at h
 ·omega
theorem z66(v:Value)(ds:List TxnD)(w:World)(h:TxnsAt w v ds)(hl:ds.length+z56 ds≤1048576):
  Calls m 182 #[v] w fun e w'=>∃b c,e=.returned (.agg #[B G (z9b ds),.slice b (idsR ds).length c])∧
   w'.ownsRow w.heap.size 2 1 (.slice b (idsR ds).length c) (idsR ds).length ((idsR ds).map (Value.int .i64))∧Below w.heap.size w w':=by
 obtain⟨a,cap,rfl⟩:=h.shape;by_cases Y:60<ds.length
 ·have e1:z9b ds=2:=if_pos Y;have e2:idsR ds=[]:=if_neg (by rw[e1];decide);rw[e1,e2];clear e1 e2;go_enter func182,ntmps182
  go_wp2
  exact bodyPost_ret (v:=.agg #[B G 2,t none 0 0]) (by simp[results,results182,go_sem]) rfl ⟨_,_,rfl,World.ownsRow_nil _ _ _ _,by go_grown⟩
 ·have e1:z9b ds=allF ds:=if_neg Y;have O:Box2 (w.alloc (.cells #[B G 0,t none 0 0] 247)) w.heap.size (B G 0) (t none 0 0):=⟨by simp,by simp,by simp,by simp,by simp⟩
  have J:Below w.heap.size w (w.alloc (.cells #[B G 0,t none 0 0] 247)):=by go_grown
  obtain⟨i0,hi,al,am,an⟩:=info_parts z6P;go_enter func182,ntmps182
  go_wp2
  generalize w.alloc (.cells #[B G 0,t none 0 0] 247)=W at O J;have aq:=O.lt;go_loopw[3,13] (fun v j wr=>∃k:Nat,k≤ds.length∧j=B G k∧wr.ownsRow W.heap.size 2 1 v (idsL ds k).length ((idsL ds k).map (Value.int .i64))∧Below W.heap.size W wr∧Hid (∀j,j<k→(ds.getD j z0m).F=0)) (fun _ j _=>ds.length-(intOf j).toNat)
  case atStart=>exact⟨0,Nat.zero_le _,rfl,World.ownsRow_nil _ _ _ _,Below.refl _ _,fun j hj=>absurd hj (Nat.not_lt_zero _)⟩
  case round=>
   obtain⟨k,hk,rfl,ho,hb,HA⟩:=hrel;have ak:=hb.size;have ai:(idsL ds k).length≤60:=by rw[z5n ds k hk];omega
   obtain⟨a1,c1,rfl⟩:=z0g ho;by_cases T:k<ds.length
   ·obtain⟨b,ar,aa,cc,rfl,ao,A,C,D,I,hA⟩:=(h.below (z0l J hb)).at k T;have U:(ds.getD k z0m).acts.length≤z56 ds:=z1w (by simp[g,T]);have d:=fun w h=>z2z (ds.getD k z0m).id (ds.getD k z0m).session (ds.getD k z0m).seq aa cc (ds.getD k z0m).acts w h (by omega)
    change∀w h,Calls _ _ _ _ fun e w'=>e=.returned (B G ((ds.getD k z0m).F))∧_ at d
    by_cases hF:(ds.getD k z0m).F=0
    ·have HB:Hid (∀j,j<k+1→(ds.getD j z0m).F=0):=by
      intro j hj;by_cases ag:j=k
      ·subst ag;exact hF
      ·exact HA.out j (by omega)
     have af:Hid (idsL ds (k+1)=idsL ds k++[(ds.getD k z0m).id]):=z8f ds k T;rw[hF]at d;clear HA hF;generalize ds.getD k z0m=z at A C D I hA d af U;obtain⟨z0,z1,z2,zs⟩:=z;dsimp only at A C D I hA d U;have x:Below wr.heap.size wr (wr.alloc (.cells #[B G z0,B G z1,B G z2,t aa zs.length cc] 39)):=by go_grown
     have V:=Blk.new wr 39 #[B G z0,B G z1,B G z2,t aa zs.length cc]
     go_wp2_with fail
     generalize wr.alloc (.cells #[B G z0,B G z1,B G z2,t aa zs.length cc] 39)=w1 at x V;refine(d _ (hA.below x)).mono ?_;rintro e w2 ⟨rfl,y⟩;replace x:=x.trans (y.mono x.size);have p0:=(V.below y).cell 0 _ rfl;have X:=z0b ho x;have ap:=x.size;clear y V d hA A C D I;have Z:Below W.heap.size w2 (w2.alloc (.cells #[B G z0] 2)):=(Below.refl _ _).alloc (by omega) _;have ae:=X.alloc (.cells #[B G z0] 2)
     go_wp2_with (at_builtin;refine wpList_append_own _ rfl _ _ 115 rfl W.heap.size 2 i0 (B G 0) 1 8 Tryz.underlying115 hi al am an rfl (by decide) _ (idsL ds k).length ((idsL ds k).map (Value.int .i64)) rfl ae ⟨w2.heap.size,0,none⟩ 1 1 [B G z0] rfl rfl ?c1 ?c2 ?c3 ?c4 ?c5 ?_)
     all_goals try
      (case c1=>intro j u hj;match j,hj with|0,hj=>simp at hj;subst hj;simp[Addr.add])
     all_goals try(case c2=>first|rfl|(intro u hu;simp at hu;subst hu;rfl))
     all_goals try(case c3=>unfold maxLen;omega)
     all_goals try(case c4=>omega)
     all_goals try(case c5=>first|omega|(simp;omega))
     intro v' w3 N M _;obtain⟨a2,c2,rfl⟩:=z0g N;have ab:Below W.heap.size w2 w3:=Z.grown M (by simp;omega) (fun j hj=>(X.lt j hj).1);have R:Hid (w3.ownsRow W.heap.size 2 1 (t a2 ((idsL ds k).length+1) c2) ((idsL ds k).length+1) ((idsL ds k++[z0]).map (Value.int .i64))∧Below W.heap.size W w3):=⟨by simpa using N,(hb.trans (x.mono ak)).trans ab⟩
     clear Z M ae ho N ab X x p0
     go_wp2
     go_roundw
     case rel=>
      refine⟨k+1,by omega,by go_num,?_,R.out.2,HB⟩;rw[af.out];simpa using R.out.1
     case measure=>simp[intOf];omega
    ·have E:Hid (allF ds=(ds.getD k z0m).F):=z6w ds k HA.out T hF;have aj:((ds.getD k z0m).F !=0)=true:=by simpa using hF
     have E2:Hid (idsR ds=[]):=if_neg (by rw[e1,E.out];exact hF);clear HA hF;generalize (ds.getD k z0m).F=r at d E aj;generalize ds.getD k z0m=z at A C D I hA d U;obtain⟨z0,z1,z2,zs⟩:=z;dsimp only at A C D I hA d U;have x:Below wr.heap.size wr (wr.alloc (.cells #[B G z0,B G z1,B G z2,t aa zs.length cc] 39)):=by go_grown
     have E1:Hid (z9b ds=allF ds):=e1;clear e1
     go_wp2_with fail
     generalize wr.alloc (.cells #[B G z0,B G z1,B G z2,t aa zs.length cc] 39)=w1 at x;refine(d _ (hA.below x)).mono ?_;rintro e w2 ⟨rfl,y⟩;obtain⟨ad,q0,q1,g0,g1⟩:=((O.below hb).below x).below y;clear d hA A C D I ho
     go_wp2
     refine bodyPost_ret (v:=.agg #[B G r,t none 0 0]) (by simp[results,results182,go_sem,q0,q1]) rfl ?_;rw[E1.out,E.out,E2.out];refine⟨_,_,rfl,World.ownsRow_nil _ _ _ _,?_⟩;repeat' (refine Below.setCell ?_ (by dsimp only;omega) _)
     exact z0l (z0l (z0l J hb) x) y
   ·have ah:k=ds.length:=by omega
    subst ah;have E:Hid (z9b ds=0):=e1.trans (z8g ds HA.out);have E2:Hid (idsR ds=idsL ds ds.length):=by
     show _=_;rw[show idsR ds=ds.map TxnD.id from if_pos E.out];simp[idsL]
    clear HA e1;obtain⟨ad,q0,q1,g0,g1⟩:=O.below hb;generalize idsL ds ds.length=L at ho E2 ai
    go_wp2
    refine bodyPost_ret (v:=.agg #[B G 0,t a1 L.length c1]) (by simp[results,results182,go_sem,q0,q1]) rfl ?_;rw[E.out,E2.out];refine⟨_,_,rfl,?_,?_⟩
    ·refine z0r (base:=W.heap.size) ?_ J.size;repeat' (refine ownsRow_setCell_below ?_ (by dsimp only;omega) _)
     exact ho
    ·repeat' (refine Below.setCell ?_ (by dsimp only;omega) _)
     exact z0l J hb
def idxN:List Int→Int→Nat
 |[],_=>0
 |y::r,x=>if y=x then 0 else idxN r x+1
theorem q42(L:List Int)(x:Int):∀k,(∀j,j<k→L.getD j 0≠x)→k<L.length→L.getD k 0=x→idxN L x=k:=by
 induction L with
 |nil=>intro k _ h;simp at h
 |cons y r ih=>
  intro k h0 hk he
  cases k with
  |zero=>simp[g]at he;simp[idxN,he]
  |succ k=>
   have hy:y≠x:=by simpa[g]using h0 0 (by omega)
   simp only[idxN,hy,if_false];rw[ih k (fun j hj=>by simpa[g]using h0 (j+1) (by omega)) (by simpa using hk) (by simpa[g]using he)]
theorem q11(L:List Int)(x:Int)(h:∀j,j<L.length→L.getD j 0≠x):idxN L x=L.length:=by
 induction L with
 |nil=>rfl
 |cons y r ih=>
  have hy:y≠x:=by simpa[g]using h 0 (by simp)
  simp only[idxN,hy,if_false,List.length_cons];rw[ih (fun j hj=>by simpa[g]using h (j+1) (by simpa using hj))]
def idxI(L:List Int)(x:Int):Int:=if idxN L x<L.length then(idxN L x:Int)else -1
theorem q0Z(a:Option Addr)(cap:Nat)(L:List Int)(x:Int)(w:World)(h:Row .i64 w a L)(hl:L.length≤1048576):
  Calls m 250 #[t a L.length cap,B G x] w fun e w'=>e=.returned (B G (idxI L x))∧w'=w:=by
 go_enter func250,ntmps250
 go_wp2
 go_loop[5] (fun j=>∃k:Nat,k≤L.length∧j=B G k∧Hid (∀j,j<k→L.getD j 0≠x)) (fun j=>L.length-(intOf j).toNat)
 case atStart=>exact⟨0,Nat.zero_le _,rfl,fun j hj=>absurd hj (Nat.not_lt_zero _)⟩
 case round=>
  obtain⟨k,hk,rfl,HA⟩:=hrel;by_cases hlt:k<L.length
  ·obtain⟨b,off,rfl,hbs,hc⟩:=h k hlt;by_cases he:L.getD k 0=x
   ·have E:Hid (idxI L x=(k:Int)):=by
     show _=_;rw[idxI,q42 L x k HA.out hlt he,if_pos hlt]
    have hee:(L.getD k 0==x)=true:=by simpa using he
    clear HA he;generalize L.getD k 0=z at hc hee
    go_wp2
    go_ret;rw[E.out];exact⟨rfl,rfl⟩
   ·have HB:Hid (∀j,j<k+1→L.getD j 0≠x):=by
     intro j hj;by_cases hjk:j=k
     ·subst hjk;exact he
     ·exact HA.out j (by omega)
    have hee:(L.getD k 0==x)=false:=by simpa using he
    clear HA he;generalize L.getD k 0=z at hc hee
    go_wp2
    go_round
    case rel=>exact⟨k+1,by omega,by go_num,HB⟩
    case measure=>simp[intOf];omega
  ·have hkl:k=L.length:=by omega
   subst hkl;have E:Hid (idxI L x=-1):=by
    show _=_;rw[idxI,q11 L x HA.out,if_neg (Nat.lt_irrefl _)]
   clear HA
   go_wp2
   go_ret;rw[E.out];exact⟨rfl,rfl⟩
theorem z2B(zs:List ActD):∀u∈z0o zs,u.oneCell'=true:=by
 intro u hu;simp only[z0o,List.mem_flatMap,ActD.cells,List.mem_cons,List.not_mem_nil,or_false]at hu;obtain⟨z,_,rfl|rfl|rfl⟩:=hu<;>rfl
theorem z3I{w:World}{b off:Nat}{xs:List Value}(h:Lies w (some ⟨b,off,none⟩) xs):∀j u,xs[j]?=some u→w.cell? ((⟨b,off,none⟩:Addr).add j)=some u:=by
 intro j u hj;rcases h with rfl|⟨b',off',e,_,hc⟩
 ·simp at hj
 ·simp only[Option.some.injEq,Addr.mk.injEq,and_true]at e;obtain⟨rfl,rfl⟩:=e;rw[Addr.add_lit];exact hc j u hj
theorem z39(i s q:Int)(b d cap:Nat)(zs:List ActD)(w:World)(h:ActRow w (some ⟨b,d,none⟩) zs)(h0:0<zs.length)(hl:zs.length≤1048576):
  Calls m 173 #[.agg #[B G i,B G s,B G q,t (some ⟨b,d,none⟩) zs.length cap]] w fun e w'=>∃a c,e=.returned (.agg #[B G i,B G s,B G q,t a zs.length c])∧
   w'.ownsRow w.heap.size 144 3 (t a zs.length c) zs.length (z0o zs)∧Below w.heap.size w w':=by
 obtain⟨i0,hi,D,E,I⟩:=info_parts z5d;have hs:=z3I (Lies.below h (w':=((w.alloc (.cells #[B G i,B G s,B G q,t (some ⟨b,d,none⟩) zs.length cap] 39)).alloc (.cells #[B G 0,B G 0,B G 0,t none 0 0] 39)).alloc (.cells #[] 144)) (by go_grown));have C:=z0q zs;have ho:=World.ownsRow_lit (e:=144) (size:=3) ((w.alloc (.cells #[B G i,B G s,B G q,t (some ⟨b,d,none⟩) zs.length cap] 39)).alloc (.cells #[B G 0,B G 0,B G 0,t none 0 0] 39)) #[] 0 (Nat.le_refl _) (by decide) rfl;have z:Below w.heap.size w (((w.alloc (.cells #[B G i,B G s,B G q,t (some ⟨b,d,none⟩) zs.length cap] 39)).alloc (.cells #[B G 0,B G 0,B G 0,t none 0 0] 39)).alloc (.cells #[] 144)):=by go_grown
 have B1:=(Blk.new w 39 #[B G i,B G s,B G q,t (some ⟨b,d,none⟩) zs.length cap]).below (w':=((w.alloc (.cells #[B G i,B G s,B G q,t (some ⟨b,d,none⟩) zs.length cap] 39)).alloc (.cells #[B G 0,B G 0,B G 0,t none 0 0] 39)).alloc (.cells #[] 144)) (by go_grown);have B2:=(Blk.new (w.alloc (.cells #[B G i,B G s,B G q,t (some ⟨b,d,none⟩) zs.length cap] 39)) 39 #[B G 0,B G 0,B G 0,t none 0 0]).below (w':=((w.alloc (.cells #[B G i,B G s,B G q,t (some ⟨b,d,none⟩) zs.length cap] 39)).alloc (.cells #[B G 0,B G 0,B G 0,t none 0 0] 39)).alloc (.cells #[] 144)) (by go_grown);have HS:Hid (∀j u,(z0o zs)[j]?=some u→_):=hs;clear hs;simp only[World.size_alloc]at B2 ho;go_enter func173,ntmps173
 go_wp2_with (at_builtin;refine wpList_append_own _ rfl _ _ 37 rfl (w.heap.size+1+1) 144 i0 (.agg #[B G 0,B G 0,B G 0]) 3 24 Tryz.underlying37 hi D E I rfl (by decide) _ 0 [] rfl ho ⟨b,d,none⟩ zs.length cap (z0o zs) rfl C HS.out ?c2 ?c3 ?c4 ?c5 ?_)
 all_goals try(case c2=>exact z2B zs)
 all_goals try(case c3=>unfold maxLen;omega)
 all_goals try(case c4=>omega)
 all_goals try(case c5=>simp)
 intro v' w2 y x _;obtain⟨a2,c2,rfl⟩:=z0g y;replace B1:=B1.grown x (by simp[Value.ownBlock]<;>omega);replace B2:=B2.grown x (by simp[Value.ownBlock]<;>omega);have A:Below w.heap.size w w2:=z.grown x (by simp;omega) (fun k hk=>by simp[Value.ownBlock]at hk;omega);have J:=B2.lt;obtain⟨p0,p1,p2,p3⟩:=B1.cel4;have pf:=B1.frozen 3;obtain⟨q0,q1,q2,q3⟩:=B2.cel4;obtain⟨f0,f1,f2,f3⟩:=B2.frz4;try simp only[Nat.zero_add]at y
 clear B1 B2 x HS ho z
 go_wp2
 refine bodyPost_ret (v:=.agg #[B G i,B G s,B G q,t a2 zs.length c2]) (by simp[results,results173,go_sem,q0,q1,q2,q3]) rfl ⟨_,_,rfl,?_,?_⟩
 ·refine z0r (base:=w.heap.size+1+1) ?_ (by omega);repeat' (refine ownsRow_setCell_below ?_ (by dsimp only;omega) _)
  simpa using y
 ·repeat' (refine Below.setCell ?_ (by dsimp only;omega) _)
  exact A
theorem q12(b y cap:Nat)(zs:List ActD)(w:World)(h:ActRow w (some ⟨b,y,none⟩) zs)(h0:0<zs.length)(hl:zs.length≤1048576):
  Calls m 186 #[t (some ⟨b,y,none⟩) zs.length cap] w fun e w'=>∃a c,e=.returned (t a zs.length c)∧
   w'.ownsRow w.heap.size 144 3 (t a zs.length c) zs.length (z0o zs)∧Below w.heap.size w w':=by
 obtain⟨i0,hi,C,D,E⟩:=info_parts z5d;have hs:=z3I (Lies.below h (w':=w.alloc (.cells #[] 144)) (by go_grown));have A:=z0q zs;have ho:=World.ownsRow_lit (e:=144) (size:=3) w #[] 0 (Nat.le_refl _) (by decide) rfl;have HS:Hid (∀j u,(z0o zs)[j]?=some u→_):=hs;clear hs;have I:∀w,(binOp .eql 37 (t (some ⟨b,y,none⟩) zs.length cap) (t none 0 0)).run m w=.ok (.bool false) w:=fun w=>by first|rfl|kernel_rfl|(simp only[binOp];simp[Op.equal,Op.maxDepth,Op.equalIn,run_underlying Tryz.underlying37])
 go_enter func186,ntmps186
 go_wp2_with (at_builtin;refine wpList_append_own _ rfl _ _ 37 rfl w.heap.size 144 i0 (.agg #[B G 0,B G 0,B G 0]) 3 24 Tryz.underlying37 hi C D E rfl (by decide) _ 0 [] rfl ho ⟨b,y,none⟩ zs.length cap (z0o zs) rfl A HS.out ?c2 ?c3 ?c4 ?c5 ?_)
 all_goals try(case c2=>exact z2B zs)
 all_goals try(case c3=>unfold maxLen;omega)
 all_goals try(case c4=>omega)
 all_goals try(case c5=>simp)
 intro v' w2 x d _;obtain⟨a2,c2,rfl⟩:=z0g x;have z:Below w.heap.size w w2:=((Below.refl _ _).alloc (Nat.le_refl _) _).grown d (by simp) (fun k hk=>by simp[Value.ownBlock]at hk;omega);try simp only[Nat.zero_add]at x
 clear d HS ho
 go_wp2
 go_ret;exact⟨a2,c2,rfl,by simpa using x,z⟩
theorem z2C(i s q:Int)(b off cap:Nat)(zs:List ActD)(w:World)(h:ActRow w (some ⟨b,off,none⟩) zs)(h0:0<zs.length)(hl:zs.length≤1048576):
  Calls m 125 #[.agg #[B G i,B G s,B G q,t (some ⟨b,off,none⟩) zs.length cap]] w fun e w'=>∃a c,e=.returned (.agg #[B G i,B G s,B G q,t a zs.length c])∧
   w'.ownsRow w.heap.size 144 3 (t a zs.length c) zs.length (z0o zs)∧Below w.heap.size w w':=by
 have hb1:Below w.heap.size w ((w.alloc (.cells #[B G i,B G s,B G q,t (some ⟨b,off,none⟩) zs.length cap] 39)).alloc (.cells #[B G 0,B G 0,B G 0,t none 0 0] 39)):=by go_grown
 have B1:=(Blk.new w 39 #[B G i,B G s,B G q,t (some ⟨b,off,none⟩) zs.length cap]).below (w':=(w.alloc (.cells #[B G i,B G s,B G q,t (some ⟨b,off,none⟩) zs.length cap] 39)).alloc (.cells #[B G 0,B G 0,B G 0,t none 0 0] 39)) (by go_grown);have B2:=Blk.new (w.alloc (.cells #[B G i,B G s,B G q,t (some ⟨b,off,none⟩) zs.length cap] 39)) 39 #[B G 0,B G 0,B G 0,t none 0 0];simp only[World.size_alloc]at B2;go_enter func125,ntmps125
 go_wp2_with fail
 generalize (w.alloc (.cells #[B G i,B G s,B G q,t (some ⟨b,off,none⟩) zs.length cap] 39)).alloc (.cells #[B G 0,B G 0,B G 0,t none 0 0] 39)=W at hb1 B1 B2;have hltW:=B2.lt;refine(q12 b off cap zs W (h.below hb1) h0 hl).mono ?_;rintro e w2 ⟨a2,c2,rfl,hown,hb⟩;replace B1:=B1.below hb;replace B2:=B2.below hb;obtain⟨p0,p1,p2,p3⟩:=B1.cel4;have pf:=B1.frozen 3;obtain⟨q0,q1,q2,q3⟩:=B2.cel4;obtain⟨f0,f1,f2,f3⟩:=B2.frz4;clear B1 B2
 go_wp2
 refine bodyPost_ret (v:=.agg #[B G i,B G s,B G q,t a2 zs.length c2]) (by simp[results,results125,go_sem,q0,q1,q2,q3]) rfl ⟨_,_,rfl,?_,?_⟩
 ·refine z0r (base:=W.heap.size) ?_ (by omega);repeat' (refine ownsRow_setCell_below ?_ (by dsimp only;omega) _)
  exact hown
 ·repeat' (refine Below.setCell ?_ (by dsimp only;omega) _)
  exact z0l hb1 hb
section
variable {P:Program} {ops:Array Oper} {Q:Exit→Act→World→Prop} {S:World→Prop}
theorem q3J(i:Nat)(d:Option Tmp)(v:Value)(fuel:Nat){F:Nat}{l:Array Bool}{a:Act}{w:World}(hF:F=fuel+1)(hs:Region.noSelect ops=true)
  (hd:(ops[i]?).map (·.dst)=some d) (hok:z4K ops [i] l=true) (hw:(ops[i]?).map (fun o=>Region.wanted o (yielded ops a.tmps))=some true)
  (hrun:∀u,S u→(ops[i]?).map (fun o=>(execOp a.eval o).run P u)=some (.ok (.value v) u)) (hS:S w)
  (h:wpAnyH P .any ops (NoPanic Q) S fuel (z31 [i] l) (a.put d v) w):wpAnyH P .any ops (NoPanic Q) S F l a w:=by
 subst hF
 cases ho:ops[i]? with
 |none=>rw[ho]at hd;simp at hd
 |some o=>
  rw[ho]at hd hw hrun;simp only[Option.map_some,Option.some.injEq]at hd hw hrun;subst hd;simp only[z4K,Bool.and_eq_true,Bool.and_true]at hok;exact wpAnyH_take (i:=i) (oi:=o) (v:=v) ho hs hok.1 hok.2 (fun c a w=>z9e c a _ _ w) (Or.inl ⟨hw,fun u hu=>hrun u hu⟩) hS h
theorem z00{K:Act→World→Prop}(i:Nat)(o:Oper){a:Act}{w:World}(ho:ops[i]?=some o)(h:wpList P ops (ThenGo Q K) [o] a w):wpOp P ops (NoPanic Q) i K a w:=by
 unfold wpOp;simp only[ho];simp only[wpList]at h;split at h
 ·rename_i hw
  rw[if_pos hw];rcases h with h|⟨h1,h2⟩
  ·left;unfold Oper.wp at h⊢;revert h;generalize (execOp a.eval o).run P w=r;intro h;unfold Oper.upon at h⊢;split at h
   ·exact h
   ·exact h
   ·exact h
   ·refine Calls.mono h fun e w' he=>?_
    cases e<;>exact he
   ·exact h
   ·exact h
   ·exact h
  ·exact Or.inr ⟨h1,h2⟩
 ·rename_i hw
  rw[if_neg hw];exact h
theorem q43{K:Act→World→Prop}(i:Nat)(d:Option Tmp)(f:Nat)(args:Array Value){a:Act}{w:World}
  (hd:(ops[i]?).map (·.dst)=some d) (hw:(ops[i]?).map (fun o=>Region.wanted o (yielded ops a.tmps))=some true)
  (hrun:(ops[i]?).map (fun o=>(execOp a.eval o).run P w)=some (.ok (.enter f args) w))
  (hc:Calls P f args w (fun e w'=>∃v,e=.returned v∧K (a.put d v) w')):wpOp P ops (NoPanic Q) i K a w:=by
 cases ho:ops[i]? with
 |none=>rw[ho]at hd;simp at hd
 |some o=>
  rw[ho]at hd hw hrun;simp only[Option.map_some,Option.some.injEq]at hd hw hrun;subst hd;unfold wpOp;simp only[ho,hw,if_true];refine .inl ?_;unfold Oper.wp;rw[hrun];simp only[Oper.upon];refine hc.mono fun e w' he=>?_
  obtain⟨v,rfl,h1⟩:=he;exact h1
theorem q6a(i j:Nat)(fuel:Nat){F:Nat}{l:Array Bool}{a:Act}{w:World}(hF:F=fuel+1)(hr:Region.ready .any ops l=[i,j])
  (hi:wpOp P ops (NoPanic Q) i (fun a' w'=>S w'∧wpAnyH P .any ops (NoPanic Q) S fuel (z31 [i] l) a' w') a w)
  (hj:wpOp P ops (NoPanic Q) j (fun a' w'=>S w'∧wpAnyH P .any ops (NoPanic Q) S fuel (z31 [j] l) a' w') a w):wpAnyH P .any ops (NoPanic Q) S F l a w:=by
 subst hF;refine wpAnyH_all hr (by simp) (fun k hk=>?_);simp only[List.mem_cons,List.not_mem_nil,or_false]at hk;rcases hk with rfl|rfl
 ·exact hi
 ·exact hj
theorem qta(i:Nat)(d:Option Tmp)(v:Value)(fuel:Nat){F:Nat}{l:Array Bool}{a:Act}{w:World}(h5:(F,Region.noSelect ops,(ops[i]?).map (·.dst),z4K ops [i] l,(ops[i]?).map (fun o=>Region.wanted o (yielded ops a.tmps)))=(fuel+1,true,some d,true,some true))
  (hrun:∀u,S u→(ops[i]?).map (fun o=>(execOp a.eval o).run P u)=some (.ok (.value v) u)) (hS:S w)
  (h:wpAnyH P .any ops (NoPanic Q) S fuel (z31 [i] l) (a.put d v) w):wpAnyH P .any ops (NoPanic Q) S F l a w:=by
 simp only[Prod.mk.injEq]at h5;exact q3J i d v fuel h5.1 h5.2.1 h5.2.2.1 h5.2.2.2.1 h5.2.2.2.2 hrun hS h
theorem opc{K:Act→World→Prop}(i:Nat)(d:Option Tmp)(f:Nat)(args:Array Value){a:Act}{w:World}
  (h3:((ops[i]?).map (·.dst),(ops[i]?).map (fun o=>Region.wanted o (yielded ops a.tmps)),(ops[i]?).map (fun o=>(execOp a.eval o).run P w))=(some d,some true,some (.ok (.enter f args) w)))
  (hc:Calls P f args w (fun e w'=>∃v,e=.returned v∧K (a.put d v) w')):wpOp P ops (NoPanic Q) i K a w:=by
 simp only[Prod.mk.injEq]at h3;exact q43 i d f args h3.1 h3.2.1 h3.2.2 hc
theorem twa(i j:Nat)(fuel:Nat){F:Nat}{l:Array Bool}{a:Act}{w:World}(h2:(F,Region.ready .any ops l)=(fuel+1,[i,j]))
  (hi:wpOp P ops (NoPanic Q) i (fun a' w'=>S w'∧wpAnyH P .any ops (NoPanic Q) S fuel (z31 [i] l) a' w') a w)
  (hj:wpOp P ops (NoPanic Q) j (fun a' w'=>S w'∧wpAnyH P .any ops (NoPanic Q) S fuel (z31 [j] l) a' w') a w):wpAnyH P .any ops (NoPanic Q) S F l a w:=by
 simp only[Prod.mk.injEq]at h2;exact q6a i j fuel h2.1 h2.2 hi hj
end
structure KeepP (p:World→Prop) where
 val:World
 isP:p val
section
variable {P:Program} {ops:Array Oper} {Q:Exit→Act→World→Prop} {S:World→Prop} {st:Nat}
def z1p(P:Program)(ops:Array Oper)(Q:Exit→Act→World→Prop)(S:World→Prop)(st:Nat):Nat→Array Bool→Act→World→Prop
 |0,listed,a,w=>Region.ready .any ops listed=[]∧Q .normal a w
 |fuel+1,listed,a,w=>
  (Region.ready .any ops listed=[]→Q .normal a w)∧
  ∀i∈Region.ready .any ops listed,wpOp P ops Q i (fun a' w'=>((listed.setIfInBounds i true).getD st true=true∨S w')∧z1p P ops Q S st fuel (listed.setIfInBounds i true) a' w') a w
theorem z6x:∀ (fuel:Nat) (listed:Array Bool) (a:Act) (w:World),z1p P ops Q S st fuel listed a w→wpAny P .any ops Q fuel listed a w
 |0,_,_,_,h=>h
 |fuel+1,_,_,_,h=>⟨h.1,fun i hi=>wpOp_mono (fun a' w' h'=>z6x fuel _ a' w' h'.2) (h.2 i hi)⟩
theorem z4w{i:Nat}{oi:Oper}{v:Value}(hi:ops[i]?=some oi)(J:∀ (j:Nat) (o:Oper) cs b,ops[j]?=some o→o.op≠.select cs b)
  (hQ:∀c a w,Q (.panic c) (a.put oi.dst v) w→Q (.panic c) a w) (N:i≠st) (Z:∀o,ops[st]?=some o→∃e∈o.after,Region.binds .any e=true∧e.on=i):
  ∀ (x:Nat) (d:Array Bool) (a:Act) (w:World),
   (∀j oj,ops[j]?=some oj→j≠i→d.getD j true=false→(∀e∈oj.after,Region.binds .any e=true→e.on≠i)→oi.apart ops oj=true)→
   i∈Region.ready .any ops d→YieldsIf P ops S oi v a→S w→d.getD st true=false→
   z1p P ops Q S st x (d.setIfInBounds i true) (a.put oi.dst v) w→z1p P ops Q S st (x+1) d a w:=by
 intro x;induction x with
 |zero=>
  intro d a w _ hr hy hS hl H;refine⟨fun h=>(by rw[h]at hr;cases hr),fun j hj=>?_⟩;by_cases y:j=i
  ·subst y;exact hy.wpOp hi hS ⟨Or.inr hS,H⟩
  ·have:=ready_mono hj y;rw[H.1]at this
   cases this
 |succ x ih=>
  intro d a w z hr hy hS hl H;refine⟨fun h=>(by rw[h]at hr;cases hr),fun j hj=>?_⟩;by_cases y:j=i
  ·subst y;exact hy.wpOp hi hS ⟨Or.inr hS,H⟩
  ·have h1:=H.2 j (ready_mono hj y);obtain⟨E,oj,C,M⟩:=mem_ready.1 hj;have I:∀e∈oj.after,Region.binds .any e=true→e.on≠i:=fun e he hb U=>by
    have h1:=M e he hb;have h0:=(mem_ready.1 hr).1;rw[U]at h1;rcases Nat.lt_or_ge i d.size with h'|h'
    ·simp[h']at h0 h1;rw[h0]at h1;cases h1
    ·simp[Array.getElem?_eq_none h']at h1
   have D:j≠st:=by
    intro e;subst e;obtain⟨e,he,hb,Y⟩:=Z oj C;exact I e he hb Y
   have h2:=wpOp_putIf C (z j oj C y E I) (fun cs b=>J i oi cs b hi) (fun cs b=>J j oj cs b C) hQ hy h1;have A:∀k ok,ops[k]?=some ok→k≠i→(d.setIfInBounds j true).getD k true=false→
     (∀e∈ok.after,Region.binds .any e=true→e.on≠i)→oi.apart ops ok=true:=fun k ok hk V T X=>by
    refine z k ok hk V ?_ X;by_cases O:j=k
    ·subst O;exact E
    ·rw[getD_set_ne true O]at T;exact T
   have W:(d.setIfInBounds j true).getD st true=false:=by rw[getD_set_ne true D];exact hl
   refine wpOp_mono (fun a' w' h3=>?_) h2;have L:S w':=by
    rcases h3.2.1 with h4|h4
    ·rw[getD_set_ne true D,getD_set_ne true N,hl]at h4
     cases h4
    ·exact h4
   refine⟨Or.inr L,ih (d.setIfInBounds j true) a' w' A (ready_mono hr (Ne.symm y)) h3.1 L W ?_⟩;rw[Array.setIfInBounds_comm _ _ y];exact h3.2.2
def PanTo(Q:Exit→Act→World→Prop)(R:List PanicEntry→World→Prop):Exit→Act→World→Prop
 | .panic c,a,w=>a.defers=[]∧R c w
 |e,a,w=>Q e a w
theorem z67(a:Act)(d:Option Tmp)(v:Value):(a.put d v).defers=a.defers:=by cases d<;>rfl
theorem PanTo.put{R:List PanicEntry→World→Prop}:∀c (a:Act) (d:Option Tmp) (v:Value) w,PanTo Q R (.panic c) (a.put d v) w→PanTo Q R (.panic c) a w:=fun c a d v w h=>⟨(z67 a d v)▸h.1,h.2⟩
variable {R:List PanicEntry→World→Prop}
theorem PanTo.imp(hR:∀c a w,a.defers=[]→R c w→Q (.panic c) a w):∀ (e:Exit) (a:Act) (w:World),PanTo Q R e a w→Q e a w:=fun e a w h=>by
 cases e<;>first|exact h|exact hR _ _ _ h.1 h.2
theorem z5o{id:Nat}{a:Act}{w:World}(st:Nat)(hm:P.follows .mixedOrders=true)(hR:∀c a w,a.defers=[]→R c w→Q (.panic c) a w)
  (h:z1p P ops (PanTo Q R) S st ops.size (Array.replicate ops.size false) a w.drew):(Code.region id ops true).wp P Q a w:=
 Code.wp_mono (PanTo.imp hR) (wp_region_any hm (z6x _ _ _ _ h))
def q13(ops:Array Oper)(st i:Nat):Bool:=match ops[st]? with
 |some o=>o.after.any (fun e=>Region.binds .any e && e.on==i)
 |none=>true
theorem q0c{i:Nat}(h:q13 ops st i=true):∀o,ops[st]?=some o→∃e∈o.after,Region.binds .any e=true∧e.on=i:=by
 intro o ho;unfold q13 at h;rw[ho]at h;obtain⟨k,hk,_,_,hb⟩:=Array.any_iff_exists.1 h;simp only[Bool.and_eq_true,beq_iff_eq]at hb;exact⟨o.after[k],Array.getElem_mem hk,hb⟩
def z8h(ops:Array Oper)(st:Nat):List Nat→Array Bool→Bool
 |[],_=>true
 |i::r,l=>Region.free .any ops l i && (Region.ready .any ops l).contains i && (i !=st) && q13 ops st i && !(l.getD st true) && z8h ops st r (l.setIfInBounds i true)
theorem q00(hs:Region.noSelect ops=true):
  ∀ (z:List Nat) (os:List Oper) (l:Array Bool) (a:Act) (w:World) (y:Nat),z.map (ops[·]?)=os.map some→os.all (fun o=>z4q o.op)=true→z8h ops st z l=true→S w→
   wpQuiet P ops S (fun a'=>z1p P ops (PanTo Q R) S st y (z31 z l) a' w) os a→z1p P ops (PanTo Q R) S st (y+z.length) l a w:=by
 intro z;induction z with
 |nil=>
  intro os l a w y d _ _ _ h
  cases os with
  |nil=>exact h
  |cons o os=>simp at d
 |cons i r ih=>
  intro os l a w y d A E hS h
  cases os with
  |nil=>simp at d
  |cons o os=>
   simp only[List.map_cons,List.cons.injEq]at d;simp only[List.all_cons,Bool.and_eq_true]at A;simp only[z8h,Bool.and_eq_true,bne_iff_ne,ne_eq,Bool.not_eq_true']at E;obtain⟨⟨⟨⟨⟨hf,hr⟩,D⟩,I⟩,hl⟩,C⟩:=E;simp only[wpQuiet]at h;by_cases hw:Region.wanted o (yielded ops a.tmps)=true
   ·rw[if_pos hw]at h;obtain⟨v,hv,hk⟩:=h;refine z4w (i:=i) (oi:=o) (v:=v) d.1 (Region.noSelect_spec hs) (fun c a w h=>PanTo.put c a _ _ w h) D (q0c I) _ l a w (Region.free_spec d.1 hf) (by simpa using hr) (Or.inl ⟨hw,fun u hu=>?_⟩) hS hl (ih os _ _ w y d.2 A.2 C hS hk);have hq:=hv u hu;unfold Oper.quietAt at hq
    cases hrun:(execOp a.eval o).run P u with
    |ok n u'=>
     obtain⟨x,rfl⟩:=z5e A.1 hrun;rw[hrun]at hq;obtain⟨e1,e2⟩:=hq;rw[e1,e2]
    |halt x u'=>
     rw[hrun]at hq;exact hq.elim
   ·rw[if_neg hw]at h;have J:Region.wanted o (yielded ops a.tmps)=false:=by simpa using hw
    exact z4w (i:=i) (oi:=o) (v:=undef) d.1 (Region.noSelect_spec hs) (fun c a w h=>PanTo.put c a _ _ w h) D (q0c I) _ l a w (Region.free_spec d.1 hf) (by simpa using hr) (Or.inr ⟨J,rfl⟩) hS hl (ih os _ _ w y d.2 A.2 C hS h)
theorem segX(rs:List (Nat × Nat))(fuel:Nat){F:Nat}{l:Array Bool}{a:Act}{w:World}(hF:F=fuel+(z7V rs).length)(hs:Region.noSelect ops=true)(hm:(z7V rs).map (ops[·]?)=(z3r ops.toList rs).map some)
  (hp:(z3r ops.toList rs).all (fun o=>z4q o.op)=true) (hok:z8h ops st (z7V rs) l=true) (hS:S w)
  (h:wpQuiet P ops S (fun a'=>z1p P ops (PanTo Q R) S st fuel (z31 (z7V rs) l) a' w) (z3r ops.toList rs) a):z1p P ops (PanTo Q R) S st F l a w:=by
 subst hF;exact q00 hs (z7V rs) _ l a w fuel hm hp hok hS h
theorem q6S(i:Nat)(d:Option Tmp)(f:Nat)(args:Array Value)(fuel:Nat){F:Nat}{l:Array Bool}{a:Act}{w:World}(hF:F=fuel+1)
  (hd:(ops[i]?).map (·.dst)=some d) (hr:Region.ready .any ops l=[i]) (hw:(ops[i]?).map (fun o=>Region.wanted o (yielded ops a.tmps))=some true)
  (hrun:(ops[i]?).map (fun o=>(execOp a.eval o).run P w)=some (.ok (.enter f args) w))
  (hdf:a.defers=[]) (hc:Calls P f args w (fun e w'=>(∃v,e=.returned v∧S w'∧z1p P ops (PanTo Q R) S st fuel (z31 [i] l) (a.put d v) w')∨∃c,e=.panicked c∧R c w')):z1p P ops (PanTo Q R) S st F l a w:=by
 subst hF
 cases ho:ops[i]? with
 |none=>rw[ho]at hd;simp at hd
 |some o=>
  rw[ho]at hd hw hrun;simp only[Option.map_some,Option.some.injEq]at hd hw hrun;subst hd;refine⟨fun h0=>(by rw[hr]at h0;cases h0),fun j hj=>?_⟩;rw[hr]at hj;simp only[List.mem_singleton]at hj;subst hj;unfold wpOp;simp only[ho,hw,if_true];refine .inl ?_;unfold Oper.wp;rw[hrun];simp only[Oper.upon];refine hc.mono fun e w' he=>?_
  rcases he with⟨v,rfl,h1,h2⟩|⟨c,rfl,h1⟩
  ·exact⟨Or.inr h1,h2⟩
  ·exact⟨hdf,h1⟩
def ThenX(Q:Exit→Act→World→Prop)(R:List PanicEntry→World→Prop)(K:Act→World→Prop):Exit→Act→World→Prop
 | .normal,a,w=>K a w
 |e,a,w=>PanTo Q R e a w
theorem ThenX.to{K:Act→World→Prop}{a:Act}{w:World}(h:K a w):ThenX Q R K .normal a w:=h
theorem oneX(i:Nat)(o:Oper)(fuel:Nat){F:Nat}{l:Array Bool}{a:Act}{w:World}(hF:F=fuel+1)(ho:ops[i]?=some o)(hr:Region.ready .any ops l=[i])
  (h:wpList P ops (ThenX Q R (fun a' w'=>((z31 [i] l).getD st true=true∨S w')∧z1p P ops (PanTo Q R) S st fuel (z31 [i] l) a' w')) [o] a w):z1p P ops (PanTo Q R) S st F l a w:=by
 subst hF;refine⟨fun h0=>(by rw[hr]at h0;cases h0),fun j hj=>?_⟩;rw[hr]at hj;simp only[List.mem_singleton]at hj;subst hj;unfold wpOp;simp only[ho];simp only[wpList]at h;split at h
 ·rename_i hw
  rw[if_pos hw];rcases h with h|⟨h1,h2⟩
  ·left;unfold Oper.wp at h⊢;revert h;generalize (execOp a.eval o).run P w=r;intro h;unfold Oper.upon at h⊢;split at h
   ·exact h
   ·exact h
   ·exact h
   ·refine Calls.mono h fun e w' he=>?_
    cases e<;>exact he
   ·exact h
   ·exact h
   ·exact h
  ·exact Or.inr ⟨h1,h2⟩
 ·rename_i hw
  rw[if_neg hw];exact h
theorem q44{F:Nat}{l:Array Bool}{a:Act}{w:World}(hr:Region.ready .any ops l=[])(h:Q .normal a w):z1p P ops (PanTo Q R) S st F l a w:=by
 cases F with
 |zero=>exact⟨hr,h⟩
 |succ F=>exact⟨fun _=>h,by rw[hr];simp⟩
theorem sgX(rs:List (Nat × Nat))(fuel:Nat){F:Nat}{l:Array Bool}{a:Act}{w:World}(h5:(F,Region.noSelect ops,(z7V rs).map (ops[·]?),(z3r ops.toList rs).all (fun o=>z4q o.op),z8h ops st (z7V rs) l)=(fuel+(z7V rs).length,true,(z3r ops.toList rs).map some,true,true))(hS:S w)
  (h:wpQuiet P ops S (fun a'=>z1p P ops (PanTo Q R) S st fuel (z31 (z7V rs) l) a' w) (z3r ops.toList rs) a):z1p P ops (PanTo Q R) S st F l a w:=by
 simp only[Prod.mk.injEq]at h5;exact segX rs fuel h5.1 h5.2.1 h5.2.2.1 h5.2.2.2.1 h5.2.2.2.2 hS h
theorem clX(i:Nat)(d:Option Tmp)(f:Nat)(args:Array Value)(fuel:Nat){F:Nat}{l:Array Bool}{a:Act}{w:World}(h5:(F,(ops[i]?).map (·.dst),Region.ready .any ops l,(ops[i]?).map (fun o=>Region.wanted o (yielded ops a.tmps)),(ops[i]?).map (fun o=>(execOp a.eval o).run P w))=(fuel+1,some d,[i],some true,some (.ok (.enter f args) w)))
  (hdf:a.defers=[]) (hc:Calls P f args w (fun e w'=>(∃v,e=.returned v∧S w'∧z1p P ops (PanTo Q R) S st fuel (z31 [i] l) (a.put d v) w')∨∃c,e=.panicked c∧R c w')):z1p P ops (PanTo Q R) S st F l a w:=by
 simp only[Prod.mk.injEq]at h5;exact q6S i d f args fuel h5.1 h5.2.1 h5.2.2.1 h5.2.2.2.1 h5.2.2.2.2 hdf hc
theorem onX(i:Nat){o:Oper}(fuel:Nat){F:Nat}{l:Array Bool}{a:Act}{w:World}(ho:ops[i]?=some o)(h2:(F,Region.ready .any ops l)=(fuel+1,[i]))
  (h:wpList P ops (ThenX Q R (fun a' w'=>((z31 [i] l).getD st true=true∨S w')∧z1p P ops (PanTo Q R) S st fuel (z31 [i] l) a' w')) [o] a w):z1p P ops (PanTo Q R) S st F l a w:=by
 simp only[Prod.mk.injEq]at h2;exact oneX i o fuel h2.1 ho h2.2 h
end
def q6T(x:UndoD):Int:=
 if inW x.key 1 20=false∨inW x.val (-20000) 20000=false then 3 else if x.was=false∧x.val≠0 then 1 else 0
end Go.Proofs.YtlkpdgjnhkjpjaaGreatDoor

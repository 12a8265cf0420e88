/- Texts joined,with what the laws reach alone. -/
import Derived.Test.YtlkpdgjnhkjpjaaGreatDoorSCAE
import Derived.Shelf.SortM.Plain
import Derived.Shelf.SortM.SortNone
import Derived.Shelf.SlicesG.In.CompactI
import Derived.Shelf.SlIterI.Nil
set_option linter.unusedVariables false
set_option linter.unusedSimpArgs false
set_option maxRecDepth 100000
set_option maxHeartbeats 2000000
namespace Go.Proofs.YtlkpdgjnhkjpjaaGreatDoor
open Go.RowKit Go.BigFrame
section
open Go.Sort Go.Shelf
def q0n:Go.Shelf.Ren:=⟨fun|5=>285|8=>298|7=>297|19=>313|20=>314|10=>304|11=>305|12=>306|13=>307|14=>308|15=>309|16=>310|17=>311|18=>312|30=>319|31=>320|32=>321|33=>322|34=>323|35=>324|40=>327|n=>n,fun|23=>115|25=>2|3=>3|32=>370|22=>115|0=>0|44=>388|46=>378|4=>4|36=>381|35=>380|41=>385|5=>5|9=>9|53=>396|57=>400|63=>404|64=>405|n=>n,fun|n=>n⟩
theorem q1l:Go.Proofs.SlLaysM.n5 Tryz.prog q0n:={
 mixed:=by kernel_rfl,
 f5:=⟨Tryz.f285.name,by decide,Tryz.func285.trans (congrArg some (by kernel_rfl))⟩,
 f7:=⟨Tryz.f297.name,by decide,Tryz.func297.trans (congrArg some (by kernel_rfl))⟩,
 f8:=Tryz.func298.trans (congrArg some (by kernel_rfl)),
 f10:=⟨Tryz.f304.name,by decide,Tryz.func304.trans (congrArg some (by kernel_rfl))⟩,
 f11:=⟨Tryz.f305.name,by decide,Tryz.func305.trans (congrArg some (by kernel_rfl))⟩,
 f12:=⟨Tryz.f306.name,by decide,Tryz.func306.trans (congrArg some (by kernel_rfl))⟩,
 f13:=⟨Tryz.f307.name,by decide,Tryz.func307.trans (congrArg some (by kernel_rfl))⟩,
 f14:=⟨Tryz.f308.name,by decide,Tryz.func308.trans (congrArg some (by kernel_rfl))⟩,
 f15:=⟨Tryz.f309.name,by decide,Tryz.func309.trans (congrArg some (by kernel_rfl))⟩,
 f16:=⟨Tryz.f310.name,by decide,Tryz.func310.trans (congrArg some (by kernel_rfl))⟩,
 f17:=⟨Tryz.f311.name,by decide,Tryz.func311.trans (congrArg some (by kernel_rfl))⟩,
 f18:=⟨Tryz.f312.name,by decide,Tryz.func312.trans (congrArg some (by kernel_rfl))⟩,
 f19:=Tryz.func313.trans (congrArg some (by kernel_rfl)),
 f20:=Tryz.func314.trans (congrArg some (by kernel_rfl)),
 f30:=⟨Tryz.f319.name,by decide,Tryz.func319.trans (congrArg some (by kernel_rfl))⟩,
 f31:=Tryz.func320.trans (congrArg some (by kernel_rfl)),
 f32:=Tryz.func321.trans (congrArg some (by kernel_rfl)),
 f33:=⟨Tryz.f322.name,by decide,Tryz.func322.trans (congrArg some (by kernel_rfl))⟩,
 f34:=⟨Tryz.f323.name,by decide,Tryz.func323.trans (congrArg some (by kernel_rfl))⟩,
 f35:=⟨Tryz.f324.name,by decide,Tryz.func324.trans (congrArg some (by kernel_rfl))⟩,
 f40:=⟨Tryz.f327.name,by decide,Tryz.func327.trans (congrArg some (by kernel_rfl))⟩,
 t0:=Tryz.underlying0,
 a0:=Tryz.isAgg0,
 z0:=Tryz.sizeOf0,
 v0:=Tryz.zeroValue0,
 t3:=Tryz.underlying3,
 a3:=Tryz.isAgg3,
 z3:=Tryz.sizeOf3,
 v3:=Tryz.zeroValue3,
 t4:=Tryz.underlying4,
 a4:=Tryz.isAgg4,
 z4:=Tryz.sizeOf4,
 v4:=Tryz.zeroValue4,
 t5:=Tryz.underlying5,
 a5:=Tryz.isAgg5,
 z5:=Tryz.sizeOf5,
 v5:=Tryz.zeroValue5,
 t9:=Tryz.underlying9,
 a9:=Tryz.isAgg9,
 z9:=Tryz.sizeOf9,
 v9:=Tryz.zeroValue9,
 t22:=Tryz.underlying115,
 a22:=Tryz.isAgg115,
 z22:=Tryz.sizeOf115,
 v22:=Tryz.zeroValue115,
 t23:=Tryz.underlying115,
 a23:=Tryz.isAgg115,
 z23:=Tryz.sizeOf115,
 v23:=Tryz.zeroValue115,
 t25:=Tryz.underlying2,
 a25:=Tryz.isAgg2,
 z25:=Tryz.sizeOf2,
 v25:=Tryz.zeroValue2,
 t32:=Tryz.underlying370,
 a32:=Tryz.isAgg370,
 z32:=Tryz.sizeOf370,
 v32:=Tryz.zeroValue370,
 t35:=Tryz.underlying380,
 a35:=Tryz.isAgg380,
 z35:=Tryz.sizeOf380,
 v35:=Tryz.zeroValue380,
 t36:=Tryz.underlying381,
 a36:=Tryz.isAgg381,
 z36:=Tryz.sizeOf381,
 v36:=Tryz.zeroValue381,
 t41:=Tryz.underlying385,
 a41:=Tryz.isAgg385,
 z41:=Tryz.sizeOf385,
 v41:=Tryz.zeroValue385,
 t44:=Tryz.underlying388,
 a44:=Tryz.isAgg388,
 z44:=Tryz.sizeOf388,
 v44:=Tryz.zeroValue388,
 t46:=Tryz.underlying378,
 a46:=Tryz.isAgg378,
 z46:=Tryz.sizeOf378,
 v46:=Tryz.zeroValue378,
 t53:=Tryz.underlying396,
 a53:=Tryz.isAgg396,
 z53:=Tryz.sizeOf396,
 v53:=Tryz.zeroValue396,
 t57:=Tryz.underlying400,
 a57:=Tryz.isAgg400,
 z57:=Tryz.sizeOf400,
 v57:=Tryz.zeroValue400,
 t63:=Tryz.underlying404,
 a63:=Tryz.isAgg404,
 z63:=Tryz.sizeOf404,
 v63:=Tryz.zeroValue404,
 t64:=Tryz.underlying405,
 a64:=Tryz.isAgg405,
 z64:=Tryz.sizeOf405,
 v64:=Tryz.zeroValue405 }
def q0o:Go.Shelf.Ren:=⟨fun|43=>287|n=>n,fun|22=>115|23=>2|3=>3|4=>4|0=>0|n=>n,fun|n=>n⟩
theorem q49:Go.Proofs.SlLaysN.n43 Tryz.prog q0o:={
 mixed:=by kernel_rfl,
 f43:=⟨Tryz.f287.name,by decide,Tryz.func287.trans (congrArg some (by kernel_rfl))⟩,
 t0:=Tryz.underlying0,
 a0:=Tryz.isAgg0,
 z0:=Tryz.sizeOf0,
 v0:=Tryz.zeroValue0,
 t3:=Tryz.underlying3,
 a3:=Tryz.isAgg3,
 z3:=Tryz.sizeOf3,
 v3:=Tryz.zeroValue3,
 t4:=Tryz.underlying4,
 a4:=Tryz.isAgg4,
 z4:=Tryz.sizeOf4,
 v4:=Tryz.zeroValue4,
 t22:=Tryz.underlying115,
 a22:=Tryz.isAgg115,
 z22:=Tryz.sizeOf115,
 v22:=Tryz.zeroValue115,
 t23:=Tryz.underlying2,
 a23:=Tryz.isAgg2,
 z23:=Tryz.sizeOf2,
 v23:=Tryz.zeroValue2,
 i23:=by kernel_rfl }
end
section
open Go.Maps Go.Sort Go.Shelf
def z6i:Go.Shelf.Ren:=⟨fun|7=>272|10=>286|n=>n,fun|23=>309|26=>2|3=>2|28=>366|0=>0|27=>365|33=>323|4=>4|n=>n,fun|n=>n⟩
theorem q3C:Go.Proofs.SlLaysZI.n7 Tryz.prog z6i:={
 mixed:=by kernel_rfl,
 f7:=⟨Tryz.f272.name,by decide,Tryz.func272.trans (congrArg some (by kernel_rfl))⟩,
 f10:=⟨Tryz.f286.name,by decide,Tryz.func286.trans (congrArg some (by kernel_rfl))⟩,
 t0:=Tryz.underlying0,
 a0:=Tryz.isAgg0,
 z0:=Tryz.sizeOf0,
 v0:=Tryz.zeroValue0,
 t4:=Tryz.underlying4,
 a4:=Tryz.isAgg4,
 z4:=Tryz.sizeOf4,
 v4:=Tryz.zeroValue4,
 t23:=Tryz.underlying309,
 a23:=Tryz.isAgg309,
 z23:=Tryz.sizeOf309,
 v23:=Tryz.zeroValue309,
 t26:=Tryz.underlying2,
 a26:=Tryz.isAgg2,
 z26:=Tryz.sizeOf2,
 v26:=Tryz.zeroValue2,
 t27:=Tryz.underlying365,
 a27:=Tryz.isAgg365,
 z27:=Tryz.sizeOf365,
 v27:=Tryz.zeroValue365,
 t28:=Tryz.underlying366,
 a28:=Tryz.isAgg366,
 z28:=Tryz.sizeOf366,
 v28:=Tryz.zeroValue366,
 t33:=Tryz.underlying323,
 a33:=Tryz.isAgg323,
 z33:=Tryz.sizeOf323,
 v33:=Tryz.zeroValue323 }
def z4k:Go.Shelf.Ren:=⟨fun|6=>271|8=>284|9=>285|11=>296|13=>298|12=>297|23=>313|24=>314|14=>304|15=>305|16=>306|17=>307|18=>308|19=>309|20=>310|21=>311|22=>312|25=>319|26=>320|27=>321|28=>322|29=>323|30=>324|31=>327|n=>n,fun|26=>2|28=>366|24=>115|0=>0|3=>3|37=>370|48=>388|50=>378|4=>4|40=>381|39=>380|45=>385|5=>5|9=>9|51=>396|55=>400|57=>404|58=>405|33=>323|n=>n,fun|n=>n⟩
theorem q2S:Go.Proofs.SlLaysZI.n6 Tryz.prog z4k:={
 mixed:=by kernel_rfl,
 f6:=⟨Tryz.f271.name,by decide,Tryz.func271.trans (congrArg some (by kernel_rfl))⟩,
 f8:=⟨Tryz.f284.name,by decide,Tryz.func284.trans (congrArg some (by kernel_rfl))⟩,
 f11:=⟨Tryz.f296.name,by decide,Tryz.func296.trans (congrArg some (by kernel_rfl))⟩,
 t0:=Tryz.underlying0,
 a0:=Tryz.isAgg0,
 z0:=Tryz.sizeOf0,
 v0:=Tryz.zeroValue0,
 t24:=Tryz.underlying115,
 a24:=Tryz.isAgg115,
 z24:=Tryz.sizeOf115,
 v24:=Tryz.zeroValue115,
 t26:=Tryz.underlying2,
 a26:=Tryz.isAgg2,
 z26:=Tryz.sizeOf2,
 v26:=Tryz.zeroValue2,
 t28:=Tryz.underlying366,
 a28:=Tryz.isAgg366,
 z28:=Tryz.sizeOf366,
 v28:=Tryz.zeroValue366,
 i26:=by kernel_rfl }
end
theorem q2T{n lo hi:Int}:inW n lo hi=true↔lo≤n∧n≤hi:=by simp[inW]
theorem q1m{zs:List ActD}(h:z2V zs=0):∀z∈zs,actF z=0:=by
 induction zs with
 |nil=>simp
 |cons x r ih=>
  simp only[z2V]at h;split at h
  ·rename_i hx
   intro z hz;rcases List.mem_cons.1 hz with rfl|hz
   ·exact hx
   ·exact ih h z hz
  ·rename_i hx;exact absurd h hx
theorem z3x{i s q:Int}{zs:List ActD}(h:txnF i s q zs=0):(1≤i∧i≤200)∧(1≤s∧s≤9)∧(1≤q∧q≤99)∧(1≤zs.length∧zs.length≤4)∧∀z∈zs,actF z=0:=by
 unfold txnF at h;split at h
 ·simp at h
 ·rename_i h1
  split at h
  ·simp at h
  ·rename_i h2
   simp only[not_or,Bool.not_eq_false,q2T]at h1;exact⟨h1.1,h1.2.1,h1.2.2,by omega,q1m h⟩
theorem Box4.cells{w:World}{b o:Nat}{x0 x1 x2 x3:Value}(h:Box4 w b o x0 x1 x2 x3):b<w.heap.size:=World.block_lt_of_cell? w ⟨b,o,none⟩ h.c0
structure Box2 (w:World) (b:Nat) (x y:Value):Prop where
 lt:b<w.heap.size
 c0:w.cell? ⟨b,0,none⟩=some x
 c1:w.cell? ⟨b,1,none⟩=some y
 f0:w.frozen? ⟨b,0,none⟩=false
 f1:w.frozen? ⟨b,1,none⟩=false
theorem Box2.below{w w':World}{b:Nat}{x y:Value}(h:Box2 w b x y)(hb:Below w.heap.size w w'):Box2 w' b x y:=
 ⟨Nat.lt_of_lt_of_le h.lt hb.size,by rw[hb.cell (p:=⟨b,0,none⟩) h.lt];exact h.c0,by rw[hb.cell (p:=⟨b,1,none⟩) h.lt];exact h.c1,by rw[hb.frozen (p:=⟨b,0,none⟩) h.lt];exact h.f0,by rw[hb.frozen (p:=⟨b,1,none⟩) h.lt];exact h.f1⟩
def TxnD.F(d:TxnD):Int:=txnF d.id d.session d.seq d.acts
def allF:List TxnD→Int
 |[]=>0
 |d::r=>if d.F=0 then allF r else d.F
def idsC(ds:List TxnD):Int:=if 60<ds.length then 2 else allF ds
def idsR(ds:List TxnD):List Int:=if idsC ds=0 then ds.map TxnD.id else []
def idsL(ds:List TxnD)(k:Nat):List Int:=(ds.take k).map TxnD.id
theorem z7T(ds:List TxnD)(k:Nat)(h:k<ds.length):idsL ds (k+1)=idsL ds k++[(ds.getD k z0k).id]:=by
 have e:ds.getD k z0k=ds[k]:=by simp[List.getD,h]
 rw[idsL,idsL,List.take_succ_eq_append_getElem h,e];simp only[List.map_append,List.map_cons,List.map_nil]
theorem z5g(ds:List TxnD)(k:Nat)(h:k≤ds.length):(idsL ds k).length=k:=by simp[idsL];omega
theorem q4e(ds:List TxnD):(idsR ds).length≤ds.length:=by
 unfold idsR;split<;>simp
theorem z6j(ds:List TxnD):∀k,(∀j,j<k→(ds.getD j z0k).F=0)→k<ds.length→(ds.getD k z0k).F≠0→allF ds=(ds.getD k z0k).F:=by
 induction ds with
 |nil=>intro k _ h;simp at h
 |cons x r ih=>
  intro k h0 hk hne
  cases k with
  |zero=>simp[List.getD]at hne⊢;simp[allF,hne]
  |succ k=>
   have hx:x.F=0:=by simpa[List.getD]using h0 0 (by omega)
   have:=ih k (fun j hj=>by simpa[List.getD]using h0 (j+1) (by omega)) (by simpa using hk) (by simpa[List.getD]using hne);simp only[allF,hx,if_true];rw[this];simp[List.getD]
theorem z7U(ds:List TxnD)(h:∀j,j<ds.length→(ds.getD j z0k).F=0):allF ds=0:=by
 induction ds with
 |nil=>rfl
 |cons x r ih=>
  have hx:x.F=0:=by simpa[List.getD]using h 0 (by simp)
  simp only[allF,hx,if_true];exact ih (fun j hj=>by simpa[List.getD]using h (j+1) (by simpa using hj))
theorem TxnsAt.box{w:World}{b off i:Nat}{z:TxnD}{aa:Option Addr}{cc:Nat}(h0:w.cell? ⟨b,off+i*4,none⟩=some (.int .i64 z.id))(h1:w.cell? ⟨b,off+i*4+1,none⟩=some (.int .i64 z.session))(h2:w.cell? ⟨b,off+i*4+2,none⟩=some (.int .i64 z.seq))
  (h3:w.cell? ⟨b,off+i*4+3,none⟩=some (.slice aa z.acts.length cc)):Box4 w b (off+i*4) (.int .i64 z.id) (.int .i64 z.session) (.int .i64 z.seq) (.slice aa z.acts.length cc):=⟨h0,h1,h2,h3⟩
theorem q1n(v:Value)(ds:List TxnD)(w:World)(h:TxnsAt w v ds)(hl:ds.length≤60):
  Calls Tryz.prog 251 #[v] w fun e w'=>∃b c,e=.returned (.slice b (ds.map TxnD.id).length c)∧w'.ownsRow w.heap.size 2 1 (.slice b (ds.map TxnD.id).length c) (ds.map TxnD.id).length ((ds.map TxnD.id).map (Value.int .i64))∧Below w.heap.size w w':=by
 obtain⟨a,cap,rfl⟩:=h.shape;obtain⟨i0,hi,T,U,V⟩:=info_parts z4Z;go_enter Tryz.func251,Tryz.ntmps251
 go_wp2
 go_loopw[3,4] (fun v j wr=>∃k:Nat,k≤ds.length∧j=.int .i64 k∧wr.ownsRow w.heap.size 2 1 v (idsL ds k).length ((idsL ds k).map (Value.int .i64))∧Below w.heap.size w wr) (fun _ j _=>ds.length-(intOf j).toNat)
 case atStart=>exact⟨0,Nat.zero_le _,rfl,by first|exact World.ownsRow_lit w #[] 0 (Nat.le_refl _) (by decide) rfl|(simp[idsL];exact World.ownsRow_lit w #[] 0 (Nat.le_refl _) (by decide) rfl),by go_grown⟩
 case round=>
  obtain⟨k,hk,rfl,ho,hb⟩:=hrel;have O:=hb.size;have N:(idsL ds k).length≤60:=by rw[z5g ds k hk];omega
  obtain⟨a1,c1,rfl⟩:=z0g ho;by_cases C:k<ds.length
  ·have J:Hid (idsL ds (k+1)=idsL ds k++[(ds.getD k z0k).id]):=z7T ds k C;obtain⟨b,X,aa,cc,rfl,W,L,_⟩:=(h.below hb).at k C;generalize (ds.getD k z0k).id=z at L J;have y:Below w.heap.size wr (wr.alloc (.cells #[.int .i64 z] 2)):=(Below.refl _ _).alloc O _;have I:=ho.alloc (.cells #[.int .i64 z] 2)
   go_wp2_with (at_builtin;refine wpList_append_own _ rfl _ _ 115 rfl w.heap.size 2 i0 (.int .i64 0) 1 8 Tryz.underlying115 hi T U V rfl (by decide) _ (idsL ds k).length ((idsL ds k).map (Value.int .i64)) rfl I ⟨wr.heap.size,0,none⟩ 1 1 [.int .i64 z] rfl rfl ?c1 ?c2 ?c3 ?c4 ?c5 ?_)
   all_goals try
    (case c1=>intro j u hj;match j,hj with|0,hj=>simp at hj;subst hj;simp[Addr.add])
   all_goals try(case c2=>first|rfl|(intro u hu;simp at hu;subst hu;rfl))
   all_goals try(case c3=>unfold maxLen;omega)
   all_goals try(case c4=>omega)
   all_goals try(case c5=>first|omega|(simp;omega))
   intro v' w2 x d _;obtain⟨a2,c2,rfl⟩:=z0g x;have A:Below w.heap.size wr w2:=y.grown d (by simp;omega) (fun j hj=>(ho.lt j hj).1);clear y d I ho;have R:Hid (w2.ownsRow w.heap.size 2 1 (.slice a2 ((idsL ds k).length+1) c2) ((idsL ds k).length+1) ((idsL ds k++[z]).map (Value.int .i64))∧Below w.heap.size w w2):=⟨by simpa using x,hb.trans A⟩
   clear x A
   go_wp2
   go_roundw
   case rel=>
    refine⟨k+1,by omega,by go_num,?_,R.out.2⟩;rw[J.out];simpa using R.out.1
   case measure=>simp[intOf];omega
  ·have M:k=ds.length:=by omega
   subst M;have e:idsL ds ds.length=ds.map TxnD.id:=by simp[idsL]
   rw[e]at ho;clear N
   go_wp2
   go_ret;rw[e];exact⟨_,_,rfl,ho,hb⟩
theorem q2U{ds:List TxnD}(h:idsC ds=0):ds.length≤60:=by
 unfold idsC at h;split at h
 ·simp at h
 ·omega
theorem z3y(v:Value)(ds:List TxnD)(w:World)(h:TxnsAt w v ds)(hl:ds.length+z5c ds≤1048576):
  Calls Tryz.prog 182 #[v] w fun e w'=>∃b c,e=.returned (.agg #[.int .i64 (idsC ds),.slice b (idsR ds).length c])∧
   w'.ownsRow w.heap.size 2 1 (.slice b (idsR ds).length c) (idsR ds).length ((idsR ds).map (Value.int .i64))∧Below w.heap.size w w':=by
 obtain⟨a,cap,rfl⟩:=h.shape;by_cases Z:60<ds.length
 ·have e1:idsC ds=2:=if_pos Z;have e2:idsR ds=[]:=if_neg (by rw[e1];decide);rw[e1,e2];clear e1 e2;go_enter Tryz.func182,Tryz.ntmps182
  go_wp2
  exact bodyPost_ret (v:=.agg #[.int .i64 2,.slice none 0 0]) (by simp[results,Tryz.results182,go_sem]) rfl ⟨_,_,rfl,World.ownsRow_nil _ _ _ _,by go_grown⟩
 ·have e1:idsC ds=allF ds:=if_neg Z;have T:Box2 (w.alloc (.cells #[.int .i64 0,.slice none 0 0] 247)) w.heap.size (.int .i64 0) (.slice none 0 0):=⟨by simp,by simp,by simp,by simp,by simp⟩
  have M:Below w.heap.size w (w.alloc (.cells #[.int .i64 0,.slice none 0 0] 247)):=by go_grown
  obtain⟨i0,hi,am,an,ao⟩:=info_parts z4Z;go_enter Tryz.func182,Tryz.ntmps182
  go_wp2
  generalize w.alloc (.cells #[.int .i64 0,.slice none 0 0] 247)=W at T M;have ar:=T.lt;go_loopw[3,13] (fun v j wr=>∃k:Nat,k≤ds.length∧j=.int .i64 k∧wr.ownsRow W.heap.size 2 1 v (idsL ds k).length ((idsL ds k).map (Value.int .i64))∧Below W.heap.size W wr∧Hid (∀j,j<k→(ds.getD j z0k).F=0)) (fun _ j _=>ds.length-(intOf j).toNat)
  case atStart=>exact⟨0,Nat.zero_le _,rfl,World.ownsRow_nil _ _ _ _,Below.refl _ _,fun j hj=>absurd hj (Nat.not_lt_zero _)⟩
  case round=>
   obtain⟨k,hk,rfl,ho,hb,HA⟩:=hrel;have al:=hb.size;have aj:(idsL ds k).length≤60:=by rw[z5g ds k hk];omega
   obtain⟨a1,c1,rfl⟩:=z0g ho;by_cases U:k<ds.length
   ·obtain⟨b,au,aa,cc,rfl,ap,A,C,I,J,hA⟩:=(h.below (z0s M hb)).at k U;have V:(ds.getD k z0k).acts.length≤z5c ds:=z1b (by simp[List.getD,U]);have d:=fun w h=>z2q (ds.getD k z0k).id (ds.getD k z0k).session (ds.getD k z0k).seq aa cc (ds.getD k z0k).acts w h (by omega)
    change∀w h,Calls _ _ _ _ fun e w'=>e=.returned (.int .i64 ((ds.getD k z0k).F))∧_ at d
    by_cases hF:(ds.getD k z0k).F=0
    ·have HB:Hid (∀j,j<k+1→(ds.getD j z0k).F=0):=by
      intro j hj;by_cases ah:j=k
      ·subst ah;exact hF
      ·exact HA.out j (by omega)
     have ag:Hid (idsL ds (k+1)=idsL ds k++[(ds.getD k z0k).id]):=z7T ds k U;rw[hF]at d;clear HA hF;generalize ds.getD k z0k=z at A C I J hA d ag V;obtain⟨z0,z1,z2,zs⟩:=z;dsimp only at A C I J hA d V;have x:Below wr.heap.size wr (wr.alloc (.cells #[.int .i64 z0,.int .i64 z1,.int .i64 z2,.slice aa zs.length cc] 39)):=by go_grown
     have X:=Blk.new wr 39 #[.int .i64 z0,.int .i64 z1,.int .i64 z2,.slice aa zs.length cc]
     go_wp2_with fail
     generalize wr.alloc (.cells #[.int .i64 z0,.int .i64 z1,.int .i64 z2,.slice aa zs.length cc] 39)=w1 at x X;refine(d _ (hA.below x)).mono ?_;rintro e w2 ⟨rfl,y⟩;replace x:=x.trans (y.mono x.size);have p0:=(X.below y).cell 0 _ rfl;have Y:=z0a ho x;have aq:=x.size;clear y X d hA A C I J;have ab:Below W.heap.size w2 (w2.alloc (.cells #[.int .i64 z0] 2)):=(Below.refl _ _).alloc (by omega) _;have af:=Y.alloc (.cells #[.int .i64 z0] 2)
     go_wp2_with (at_builtin;refine wpList_append_own _ rfl _ _ 115 rfl W.heap.size 2 i0 (.int .i64 0) 1 8 Tryz.underlying115 hi am an ao rfl (by decide) _ (idsL ds k).length ((idsL ds k).map (Value.int .i64)) rfl af ⟨w2.heap.size,0,none⟩ 1 1 [.int .i64 z0] rfl rfl ?c1 ?c2 ?c3 ?c4 ?c5 ?_)
     all_goals try
      (case c1=>intro j u hj;match j,hj with|0,hj=>simp at hj;subst hj;simp[Addr.add])
     all_goals try(case c2=>first|rfl|(intro u hu;simp at hu;subst hu;rfl))
     all_goals try(case c3=>unfold maxLen;omega)
     all_goals try(case c4=>omega)
     all_goals try(case c5=>first|omega|(simp;omega))
     intro v' w3 O N _;obtain⟨a2,c2,rfl⟩:=z0g O;have ad:Below W.heap.size w2 w3:=ab.grown N (by simp;omega) (fun j hj=>(Y.lt j hj).1);have R:Hid (w3.ownsRow W.heap.size 2 1 (.slice a2 ((idsL ds k).length+1) c2) ((idsL ds k).length+1) ((idsL ds k++[z0]).map (Value.int .i64))∧Below W.heap.size W w3):=⟨by simpa using O,(hb.trans (x.mono al)).trans ad⟩
     clear ab N af ho O ad Y x p0
     go_wp2
     go_roundw
     case rel=>
      refine⟨k+1,by omega,by go_num,?_,R.out.2,HB⟩;rw[ag.out];simpa using R.out.1
     case measure=>simp[intOf];omega
    ·have E:Hid (allF ds=(ds.getD k z0k).F):=z6j ds k HA.out U hF;have ak:((ds.getD k z0k).F !=0)=true:=by simpa using hF
     have E2:Hid (idsR ds=[]):=if_neg (by rw[e1,E.out];exact hF);clear HA hF;generalize (ds.getD k z0k).F=r at d E ak;generalize ds.getD k z0k=z at A C I J hA d V;obtain⟨z0,z1,z2,zs⟩:=z;dsimp only at A C I J hA d V;have x:Below wr.heap.size wr (wr.alloc (.cells #[.int .i64 z0,.int .i64 z1,.int .i64 z2,.slice aa zs.length cc] 39)):=by go_grown
     have E1:Hid (idsC ds=allF ds):=e1;clear e1
     go_wp2_with fail
     generalize wr.alloc (.cells #[.int .i64 z0,.int .i64 z1,.int .i64 z2,.slice aa zs.length cc] 39)=w1 at x;refine(d _ (hA.below x)).mono ?_;rintro e w2 ⟨rfl,y⟩;obtain⟨ae,q0,q1,g0,g1⟩:=((T.below hb).below x).below y;clear d hA A C I J ho
     go_wp2
     refine bodyPost_ret (v:=.agg #[.int .i64 r,.slice none 0 0]) (by simp[results,Tryz.results182,go_sem,q0,q1]) rfl ?_;rw[E1.out,E.out,E2.out];refine⟨_,_,rfl,World.ownsRow_nil _ _ _ _,?_⟩;repeat' (refine Below.setCell ?_ (by dsimp only;omega) _)
     exact z0s (z0s (z0s M hb) x) y
   ·have ai:k=ds.length:=by omega
    subst ai;have E:Hid (idsC ds=0):=e1.trans (z7U ds HA.out);have E2:Hid (idsR ds=idsL ds ds.length):=by
     show _=_;rw[show idsR ds=ds.map TxnD.id from if_pos E.out];simp[idsL]
    clear HA e1;obtain⟨ae,q0,q1,g0,g1⟩:=T.below hb;generalize idsL ds ds.length=L at ho E2 aj
    go_wp2
    refine bodyPost_ret (v:=.agg #[.int .i64 0,.slice a1 L.length c1]) (by simp[results,Tryz.results182,go_sem,q0,q1]) rfl ?_;rw[E.out,E2.out];refine⟨_,_,rfl,?_,?_⟩
    ·refine z0o (base:=W.heap.size) ?_ M.size;repeat' (refine ownsRow_setCell_below ?_ (by dsimp only;omega) _)
     exact ho
    ·repeat' (refine Below.setCell ?_ (by dsimp only;omega) _)
     exact z0s M hb
def idxN:List Int→Int→Nat
 |[],_=>0
 |y::r,x=>if y=x then 0 else idxN r x+1
theorem q4f(L:List Int)(x:Int):∀k,(∀j,j<k→L.getD j 0≠x)→k<L.length→L.getD k 0=x→idxN L x=k:=by
 induction L with
 |nil=>intro k _ h;simp at h
 |cons y r ih=>
  intro k h0 hk he
  cases k with
  |zero=>simp[List.getD]at he;simp[idxN,he]
  |succ k=>
   have hy:y≠x:=by simpa[List.getD]using h0 0 (by omega)
   simp only[idxN,hy,if_false];rw[ih k (fun j hj=>by simpa[List.getD]using h0 (j+1) (by omega)) (by simpa using hk) (by simpa[List.getD]using he)]
theorem q1o(L:List Int)(x:Int)(h:∀j,j<L.length→L.getD j 0≠x):idxN L x=L.length:=by
 induction L with
 |nil=>rfl
 |cons y r ih=>
  have hy:y≠x:=by simpa[List.getD]using h 0 (by simp)
  simp only[idxN,hy,if_false,List.length_cons];rw[ih (fun j hj=>by simpa[List.getD]using h (j+1) (by simpa using hj))]
def idxI(L:List Int)(x:Int):Int:=if idxN L x<L.length then(idxN L x:Int)else -1
theorem q0p(a:Option Addr)(cap:Nat)(L:List Int)(x:Int)(w:World)(h:Row .i64 w a L)(hl:L.length≤1048576):
  Calls Tryz.prog 250 #[.slice a L.length cap,.int .i64 x] w fun e w'=>e=.returned (.int .i64 (idxI L x))∧w'=w:=by
 go_enter Tryz.func250,Tryz.ntmps250
 go_wp2
 go_loop[5] (fun j=>∃k:Nat,k≤L.length∧j=.int .i64 k∧Hid (∀j,j<k→L.getD j 0≠x)) (fun j=>L.length-(intOf j).toNat)
 case atStart=>exact⟨0,Nat.zero_le _,rfl,fun j hj=>absurd hj (Nat.not_lt_zero _)⟩
 case round=>
  obtain⟨k,hk,rfl,HA⟩:=hrel;by_cases hlt:k<L.length
  ·obtain⟨b,off,rfl,hbs,hc⟩:=h k hlt;by_cases he:L.getD k 0=x
   ·have E:Hid (idxI L x=(k:Int)):=by
     show _=_;rw[idxI,q4f L x k HA.out hlt he,if_pos hlt]
    have hee:(L.getD k 0==x)=true:=by simpa using he
    clear HA he;generalize L.getD k 0=z at hc hee
    go_wp2
    go_ret;rw[E.out];exact⟨rfl,rfl⟩
   ·have HB:Hid (∀j,j<k+1→L.getD j 0≠x):=by
     intro j hj;by_cases hjk:j=k
     ·subst hjk;exact he
     ·exact HA.out j (by omega)
    have hee:(L.getD k 0==x)=false:=by simpa using he
    clear HA he;generalize L.getD k 0=z at hc hee
    go_wp2
    go_round
    case rel=>exact⟨k+1,by omega,by go_num,HB⟩
    case measure=>simp[intOf];omega
  ·have hkl:k=L.length:=by omega
   subst hkl;have E:Hid (idxI L x=-1):=by
    show _=_;rw[idxI,q1o L x HA.out,if_neg (Nat.lt_irrefl _)]
   clear HA
   go_wp2
   go_ret;rw[E.out];exact⟨rfl,rfl⟩
theorem z2s(zs:List ActD):∀u∈z0n zs,u.oneCell'=true:=by
 intro u hu;simp only[z0n,List.mem_flatMap,ActD.cells,List.mem_cons,List.not_mem_nil,or_false]at hu;obtain⟨z,_,rfl|rfl|rfl⟩:=hu<;>rfl
theorem z3z{w:World}{b off:Nat}{xs:List Value}(h:Lies w (some ⟨b,off,none⟩) xs):∀j u,xs[j]?=some u→w.cell? ((⟨b,off,none⟩:Addr).add j)=some u:=by
 intro j u hj;rcases h with rfl|⟨b',off',e,_,hc⟩
 ·simp at hj
 ·simp only[Option.some.injEq,Addr.mk.injEq,and_true]at e;obtain⟨rfl,rfl⟩:=e;rw[Addr.add_lit];exact hc j u hj
theorem z6k(i s q:Int)(b d cap:Nat)(zs:List ActD)(w:World)(h:ActRow w (some ⟨b,d,none⟩) zs)(h0:0<zs.length)(hl:zs.length≤1048576):
  Calls Tryz.prog 173 #[.agg #[.int .i64 i,.int .i64 s,.int .i64 q,.slice (some ⟨b,d,none⟩) zs.length cap]] w fun e w'=>∃a c,e=.returned (.agg #[.int .i64 i,.int .i64 s,.int .i64 q,.slice a zs.length c])∧
   w'.ownsRow w.heap.size 144 3 (.slice a zs.length c) zs.length (z0n zs)∧Below w.heap.size w w':=by
 obtain⟨i0,hi,I,J,L⟩:=info_parts z42;have hs:=z3z (Lies.below h (w':=((w.alloc (.cells #[.int .i64 i,.int .i64 s,.int .i64 q,.slice (some ⟨b,d,none⟩) zs.length cap] 39)).alloc (.cells #[.int .i64 0,.int .i64 0,.int .i64 0,.slice none 0 0] 39)).alloc (.cells #[] 144)) (by go_grown));have C:=z0q zs;have ho:=World.ownsRow_lit (e:=144) (size:=3) ((w.alloc (.cells #[.int .i64 i,.int .i64 s,.int .i64 q,.slice (some ⟨b,d,none⟩) zs.length cap] 39)).alloc (.cells #[.int .i64 0,.int .i64 0,.int .i64 0,.slice none 0 0] 39)) #[] 0 (Nat.le_refl _) (by decide) rfl;have z:Below w.heap.size w (((w.alloc (.cells #[.int .i64 i,.int .i64 s,.int .i64 q,.slice (some ⟨b,d,none⟩) zs.length cap] 39)).alloc (.cells #[.int .i64 0,.int .i64 0,.int .i64 0,.slice none 0 0] 39)).alloc (.cells #[] 144)):=by go_grown
 have B1:=(Blk.new w 39 #[.int .i64 i,.int .i64 s,.int .i64 q,.slice (some ⟨b,d,none⟩) zs.length cap]).below (w':=((w.alloc (.cells #[.int .i64 i,.int .i64 s,.int .i64 q,.slice (some ⟨b,d,none⟩) zs.length cap] 39)).alloc (.cells #[.int .i64 0,.int .i64 0,.int .i64 0,.slice none 0 0] 39)).alloc (.cells #[] 144)) (by go_grown);have B2:=(Blk.new (w.alloc (.cells #[.int .i64 i,.int .i64 s,.int .i64 q,.slice (some ⟨b,d,none⟩) zs.length cap] 39)) 39 #[.int .i64 0,.int .i64 0,.int .i64 0,.slice none 0 0]).below (w':=((w.alloc (.cells #[.int .i64 i,.int .i64 s,.int .i64 q,.slice (some ⟨b,d,none⟩) zs.length cap] 39)).alloc (.cells #[.int .i64 0,.int .i64 0,.int .i64 0,.slice none 0 0] 39)).alloc (.cells #[] 144)) (by go_grown);have HS:Hid (∀j u,(z0n zs)[j]?=some u→_):=hs;clear hs;simp only[World.size_alloc]at B2 ho;go_enter Tryz.func173,Tryz.ntmps173
 go_wp2_with (at_builtin;refine wpList_append_own _ rfl _ _ 37 rfl (w.heap.size+1+1) 144 i0 (.agg #[.int .i64 0,.int .i64 0,.int .i64 0]) 3 24 Tryz.underlying37 hi I J L rfl (by decide) _ 0 [] rfl ho ⟨b,d,none⟩ zs.length cap (z0n zs) rfl C HS.out ?c2 ?c3 ?c4 ?c5 ?_)
 all_goals try(case c2=>exact z2s zs)
 all_goals try(case c3=>unfold maxLen;omega)
 all_goals try(case c4=>omega)
 all_goals try(case c5=>simp)
 intro v' w2 y x _;obtain⟨a2,c2,rfl⟩:=z0g y;replace B1:=B1.grown x (by simp[Value.ownBlock]<;>omega);replace B2:=B2.grown x (by simp[Value.ownBlock]<;>omega);have A:Below w.heap.size w w2:=z.grown x (by simp;omega) (fun k hk=>by simp[Value.ownBlock]at hk;omega);have M:=B2.lt;obtain⟨p0,p1,p2,p3⟩:=B1.cel4;have pf:=B1.frozen 3;obtain⟨q0,q1,q2,q3⟩:=B2.cel4;obtain⟨f0,f1,f2,f3⟩:=B2.frz4;try simp only[Nat.zero_add]at y
 clear B1 B2 x HS ho z
 go_wp2
 refine bodyPost_ret (v:=.agg #[.int .i64 i,.int .i64 s,.int .i64 q,.slice a2 zs.length c2]) (by simp[results,Tryz.results173,go_sem,q0,q1,q2,q3]) rfl ⟨_,_,rfl,?_,?_⟩
 ·refine z0o (base:=w.heap.size+1+1) ?_ (by omega);repeat' (refine ownsRow_setCell_below ?_ (by dsimp only;omega) _)
  simpa using y
 ·repeat' (refine Below.setCell ?_ (by dsimp only;omega) _)
  exact A
theorem q1p(b y cap:Nat)(zs:List ActD)(w:World)(h:ActRow w (some ⟨b,y,none⟩) zs)(h0:0<zs.length)(hl:zs.length≤1048576):
  Calls Tryz.prog 186 #[.slice (some ⟨b,y,none⟩) zs.length cap] w fun e w'=>∃a c,e=.returned (.slice a zs.length c)∧
   w'.ownsRow w.heap.size 144 3 (.slice a zs.length c) zs.length (z0n zs)∧Below w.heap.size w w':=by
 obtain⟨i0,hi,C,I,J⟩:=info_parts z42;have hs:=z3z (Lies.below h (w':=w.alloc (.cells #[] 144)) (by go_grown));have A:=z0q zs;have ho:=World.ownsRow_lit (e:=144) (size:=3) w #[] 0 (Nat.le_refl _) (by decide) rfl;have HS:Hid (∀j u,(z0n zs)[j]?=some u→_):=hs;clear hs;have L:∀w,(binOp .eql 37 (.slice (some ⟨b,y,none⟩) zs.length cap) (.slice none 0 0)).run Tryz.prog w=.ok (.bool false) w:=fun w=>by first|rfl|kernel_rfl|(simp only[binOp];simp[Op.equal,Op.maxDepth,Op.equalIn,run_underlying Tryz.underlying37])
 go_enter Tryz.func186,Tryz.ntmps186
 go_wp2_with (at_builtin;refine wpList_append_own _ rfl _ _ 37 rfl w.heap.size 144 i0 (.agg #[.int .i64 0,.int .i64 0,.int .i64 0]) 3 24 Tryz.underlying37 hi C I J rfl (by decide) _ 0 [] rfl ho ⟨b,y,none⟩ zs.length cap (z0n zs) rfl A HS.out ?c2 ?c3 ?c4 ?c5 ?_)
 all_goals try(case c2=>exact z2s zs)
 all_goals try(case c3=>unfold maxLen;omega)
 all_goals try(case c4=>omega)
 all_goals try(case c5=>simp)
 intro v' w2 x d _;obtain⟨a2,c2,rfl⟩:=z0g x;have z:Below w.heap.size w w2:=((Below.refl _ _).alloc (Nat.le_refl _) _).grown d (by simp) (fun k hk=>by simp[Value.ownBlock]at hk;omega);try simp only[Nat.zero_add]at x
 clear d HS ho
 go_wp2
 go_ret;exact⟨a2,c2,rfl,by simpa using x,z⟩
theorem z2t(i s q:Int)(b off cap:Nat)(zs:List ActD)(w:World)(h:ActRow w (some ⟨b,off,none⟩) zs)(h0:0<zs.length)(hl:zs.length≤1048576):
  Calls Tryz.prog 125 #[.agg #[.int .i64 i,.int .i64 s,.int .i64 q,.slice (some ⟨b,off,none⟩) zs.length cap]] w fun e w'=>∃a c,e=.returned (.agg #[.int .i64 i,.int .i64 s,.int .i64 q,.slice a zs.length c])∧
   w'.ownsRow w.heap.size 144 3 (.slice a zs.length c) zs.length (z0n zs)∧Below w.heap.size w w':=by
 have hb1:Below w.heap.size w ((w.alloc (.cells #[.int .i64 i,.int .i64 s,.int .i64 q,.slice (some ⟨b,off,none⟩) zs.length cap] 39)).alloc (.cells #[.int .i64 0,.int .i64 0,.int .i64 0,.slice none 0 0] 39)):=by go_grown
 have B1:=(Blk.new w 39 #[.int .i64 i,.int .i64 s,.int .i64 q,.slice (some ⟨b,off,none⟩) zs.length cap]).below (w':=(w.alloc (.cells #[.int .i64 i,.int .i64 s,.int .i64 q,.slice (some ⟨b,off,none⟩) zs.length cap] 39)).alloc (.cells #[.int .i64 0,.int .i64 0,.int .i64 0,.slice none 0 0] 39)) (by go_grown);have B2:=Blk.new (w.alloc (.cells #[.int .i64 i,.int .i64 s,.int .i64 q,.slice (some ⟨b,off,none⟩) zs.length cap] 39)) 39 #[.int .i64 0,.int .i64 0,.int .i64 0,.slice none 0 0];simp only[World.size_alloc]at B2;go_enter Tryz.func125,Tryz.ntmps125
 go_wp2_with fail
 generalize (w.alloc (.cells #[.int .i64 i,.int .i64 s,.int .i64 q,.slice (some ⟨b,off,none⟩) zs.length cap] 39)).alloc (.cells #[.int .i64 0,.int .i64 0,.int .i64 0,.slice none 0 0] 39)=W at hb1 B1 B2;have hltW:=B2.lt;refine(q1p b off cap zs W (h.below hb1) h0 hl).mono ?_;rintro e w2 ⟨a2,c2,rfl,hown,hb⟩;replace B1:=B1.below hb;replace B2:=B2.below hb;obtain⟨p0,p1,p2,p3⟩:=B1.cel4;have pf:=B1.frozen 3;obtain⟨q0,q1,q2,q3⟩:=B2.cel4;obtain⟨f0,f1,f2,f3⟩:=B2.frz4;clear B1 B2
 go_wp2
 refine bodyPost_ret (v:=.agg #[.int .i64 i,.int .i64 s,.int .i64 q,.slice a2 zs.length c2]) (by simp[results,Tryz.results125,go_sem,q0,q1,q2,q3]) rfl ⟨_,_,rfl,?_,?_⟩
 ·refine z0o (base:=W.heap.size) ?_ (by omega);repeat' (refine ownsRow_setCell_below ?_ (by dsimp only;omega) _)
  exact hown
 ·repeat' (refine Below.setCell ?_ (by dsimp only;omega) _)
  exact z0s hb1 hb
section
variable {P:Program} {ops:Array Oper} {Q:Exit→Act→World→Prop} {S:World→Prop}
theorem q2V(i:Nat)(d:Option Tmp)(v:Value)(fuel:Nat){F:Nat}{l:Array Bool}{a:Act}{w:World}(hF:F=fuel+1)(hs:Region.noSelect ops=true)
  (hd:(ops[i]?).map (·.dst)=some d) (hok:z4E ops [i] l=true) (hw:(ops[i]?).map (fun o=>Region.wanted o (yielded ops a.tmps))=some true)
  (hrun:∀u,S u→(ops[i]?).map (fun o=>(execOp a.eval o).run P u)=some (.ok (.value v) u)) (hS:S w)
  (h:wpAnyH P .any ops (NoPanic Q) S fuel (z3o [i] l) (a.put d v) w):wpAnyH P .any ops (NoPanic Q) S F l a w:=by
 subst hF
 cases ho:ops[i]? with
 |none=>rw[ho]at hd;simp at hd
 |some o=>
  rw[ho]at hd hw hrun;simp only[Option.map_some,Option.some.injEq]at hd hw hrun;subst hd;simp only[z4E,Bool.and_eq_true,Bool.and_true]at hok;exact wpAnyH_take (i:=i) (oi:=o) (v:=v) ho hs hok.1 hok.2 (fun c a w=>z8L c a _ _ w) (Or.inl ⟨hw,fun u hu=>hrun u hu⟩) hS h
theorem z1c{K:Act→World→Prop}(i:Nat)(o:Oper){a:Act}{w:World}(ho:ops[i]?=some o)(h:wpList P ops (ThenGo Q K) [o] a w):wpOp P ops (NoPanic Q) i K a w:=by
 unfold wpOp;simp only[ho];simp only[wpList]at h;split at h
 ·rename_i hw
  rw[if_pos hw];rcases h with h|⟨h1,h2⟩
  ·left;unfold Oper.wp at h⊢;revert h;generalize (execOp a.eval o).run P w=r;intro h;unfold Oper.upon at h⊢;split at h
   ·exact h
   ·exact h
   ·exact h
   ·refine Calls.mono h fun e w' he=>?_
    cases e<;>exact he
   ·exact h
   ·exact h
   ·exact h
  ·exact Or.inr ⟨h1,h2⟩
 ·rename_i hw
  rw[if_neg hw];exact h
theorem q4g{K:Act→World→Prop}(i:Nat)(d:Option Tmp)(f:Nat)(args:Array Value){a:Act}{w:World}
  (hd:(ops[i]?).map (·.dst)=some d) (hw:(ops[i]?).map (fun o=>Region.wanted o (yielded ops a.tmps))=some true)
  (hrun:(ops[i]?).map (fun o=>(execOp a.eval o).run P w)=some (.ok (.enter f args) w))
  (hc:Calls P f args w (fun e w'=>∃v,e=.returned v∧K (a.put d v) w')):wpOp P ops (NoPanic Q) i K a w:=by
 cases ho:ops[i]? with
 |none=>rw[ho]at hd;simp at hd
 |some o=>
  rw[ho]at hd hw hrun;simp only[Option.map_some,Option.some.injEq]at hd hw hrun;subst hd;unfold wpOp;simp only[ho,hw,if_true];refine .inl ?_;unfold Oper.wp;rw[hrun];simp only[Oper.upon];refine hc.mono fun e w' he=>?_
  obtain⟨v,rfl,h1⟩:=he;exact h1
theorem q5a(i j:Nat)(fuel:Nat){F:Nat}{l:Array Bool}{a:Act}{w:World}(hF:F=fuel+1)(hr:Region.ready .any ops l=[i,j])
  (hi:wpOp P ops (NoPanic Q) i (fun a' w'=>S w'∧wpAnyH P .any ops (NoPanic Q) S fuel (z3o [i] l) a' w') a w)
  (hj:wpOp P ops (NoPanic Q) j (fun a' w'=>S w'∧wpAnyH P .any ops (NoPanic Q) S fuel (z3o [j] l) a' w') a w):wpAnyH P .any ops (NoPanic Q) S F l a w:=by
 subst hF;refine wpAnyH_all hr (by simp) (fun k hk=>?_);simp only[List.mem_cons,List.not_mem_nil,or_false]at hk;rcases hk with rfl|rfl
 ·exact hi
 ·exact hj
theorem qta(i:Nat)(d:Option Tmp)(v:Value)(fuel:Nat){F:Nat}{l:Array Bool}{a:Act}{w:World}(h5:(F,Region.noSelect ops,(ops[i]?).map (·.dst),z4E ops [i] l,(ops[i]?).map (fun o=>Region.wanted o (yielded ops a.tmps)))=(fuel+1,true,some d,true,some true))
  (hrun:∀u,S u→(ops[i]?).map (fun o=>(execOp a.eval o).run P u)=some (.ok (.value v) u)) (hS:S w)
  (h:wpAnyH P .any ops (NoPanic Q) S fuel (z3o [i] l) (a.put d v) w):wpAnyH P .any ops (NoPanic Q) S F l a w:=by
 simp only[Prod.mk.injEq]at h5;exact q2V i d v fuel h5.1 h5.2.1 h5.2.2.1 h5.2.2.2.1 h5.2.2.2.2 hrun hS h
theorem opc{K:Act→World→Prop}(i:Nat)(d:Option Tmp)(f:Nat)(args:Array Value){a:Act}{w:World}
  (h3:((ops[i]?).map (·.dst),(ops[i]?).map (fun o=>Region.wanted o (yielded ops a.tmps)),(ops[i]?).map (fun o=>(execOp a.eval o).run P w))=(some d,some true,some (.ok (.enter f args) w)))
  (hc:Calls P f args w (fun e w'=>∃v,e=.returned v∧K (a.put d v) w')):wpOp P ops (NoPanic Q) i K a w:=by
 simp only[Prod.mk.injEq]at h3;exact q4g i d f args h3.1 h3.2.1 h3.2.2 hc
theorem twa(i j:Nat)(fuel:Nat){F:Nat}{l:Array Bool}{a:Act}{w:World}(h2:(F,Region.ready .any ops l)=(fuel+1,[i,j]))
  (hi:wpOp P ops (NoPanic Q) i (fun a' w'=>S w'∧wpAnyH P .any ops (NoPanic Q) S fuel (z3o [i] l) a' w') a w)
  (hj:wpOp P ops (NoPanic Q) j (fun a' w'=>S w'∧wpAnyH P .any ops (NoPanic Q) S fuel (z3o [j] l) a' w') a w):wpAnyH P .any ops (NoPanic Q) S F l a w:=by
 simp only[Prod.mk.injEq]at h2;exact q5a i j fuel h2.1 h2.2 hi hj
end
structure KeepP (p:World→Prop) where
 val:World
 isP:p val
section
variable {P:Program} {ops:Array Oper} {Q:Exit→Act→World→Prop} {S:World→Prop} {st:Nat}
def z0J(P:Program)(ops:Array Oper)(Q:Exit→Act→World→Prop)(S:World→Prop)(st:Nat):Nat→Array Bool→Act→World→Prop
 |0,listed,a,w=>Region.ready .any ops listed=[]∧Q .normal a w
 |fuel+1,listed,a,w=>
  (Region.ready .any ops listed=[]→Q .normal a w)∧
  ∀i∈Region.ready .any ops listed,wpOp P ops Q i (fun a' w'=>((listed.setIfInBounds i true).getD st true=true∨S w')∧z0J P ops Q S st fuel (listed.setIfInBounds i true) a' w') a w
theorem z6l:∀ (fuel:Nat) (listed:Array Bool) (a:Act) (w:World),z0J P ops Q S st fuel listed a w→wpAny P .any ops Q fuel listed a w
 |0,_,_,_,h=>h
 |fuel+1,_,_,_,h=>⟨h.1,fun i hi=>wpOp_mono (fun a' w' h'=>z6l fuel _ a' w' h'.2) (h.2 i hi)⟩
theorem z4l{i:Nat}{oi:Oper}{v:Value}(hi:ops[i]?=some oi)(M:∀ (j:Nat) (o:Oper) cs b,ops[j]?=some o→o.op≠.select cs b)
  (hQ:∀c a w,Q (.panic c) (a.put oi.dst v) w→Q (.panic c) a w) (T:i≠st) (ab:∀o,ops[st]?=some o→∃e∈o.after,Region.binds .any e=true∧e.on=i):
  ∀ (x:Nat) (d:Array Bool) (a:Act) (w:World),
   (∀j oj,ops[j]?=some oj→j≠i→d.getD j true=false→(∀e∈oj.after,Region.binds .any e=true→e.on≠i)→oi.apart ops oj=true)→
   i∈Region.ready .any ops d→YieldsIf P ops S oi v a→S w→d.getD st true=false→
   z0J P ops Q S st x (d.setIfInBounds i true) (a.put oi.dst v) w→z0J P ops Q S st (x+1) d a w:=by
 intro x;induction x with
 |zero=>
  intro d a w _ hr hy hS hl H;refine⟨fun h=>(by rw[h]at hr;cases hr),fun j hj=>?_⟩;by_cases y:j=i
  ·subst y;exact hy.wpOp hi hS ⟨Or.inr hS,H⟩
  ·have:=ready_mono hj y;rw[H.1]at this
   cases this
 |succ x ih=>
  intro d a w z hr hy hS hl H;refine⟨fun h=>(by rw[h]at hr;cases hr),fun j hj=>?_⟩;by_cases y:j=i
  ·subst y;exact hy.wpOp hi hS ⟨Or.inr hS,H⟩
  ·have h1:=H.2 j (ready_mono hj y);obtain⟨J,oj,C,O⟩:=mem_ready.1 hj;have L:∀e∈oj.after,Region.binds .any e=true→e.on≠i:=fun e he hb W=>by
    have h1:=O e he hb;have h0:=(mem_ready.1 hr).1;rw[W]at h1;rcases Nat.lt_or_ge i d.size with h'|h'
    ·simp[h']at h0 h1;rw[h0]at h1;cases h1
    ·simp[Array.getElem?_eq_none h']at h1
   have I:j≠st:=by
    intro e;subst e;obtain⟨e,he,hb,aa⟩:=ab oj C;exact L e he hb aa
   have h2:=wpOp_putIf C (z j oj C y J L) (fun cs b=>M i oi cs b hi) (fun cs b=>M j oj cs b C) hQ hy h1;have A:∀k ok,ops[k]?=some ok→k≠i→(d.setIfInBounds j true).getD k true=false→
     (∀e∈ok.after,Region.binds .any e=true→e.on≠i)→oi.apart ops ok=true:=fun k ok hk X V Z=>by
    refine z k ok hk X ?_ Z;by_cases U:j=k
    ·subst U;exact J
    ·rw[getD_set_ne true U]at V;exact V
   have Y:(d.setIfInBounds j true).getD st true=false:=by rw[getD_set_ne true I];exact hl
   refine wpOp_mono (fun a' w' h3=>?_) h2;have N:S w':=by
    rcases h3.2.1 with h4|h4
    ·rw[getD_set_ne true I,getD_set_ne true T,hl]at h4
     cases h4
    ·exact h4
   refine⟨Or.inr N,ih (d.setIfInBounds j true) a' w' A (ready_mono hr (Ne.symm y)) h3.1 N Y ?_⟩;rw[Array.setIfInBounds_comm _ _ y];exact h3.2.2
def PanTo(Q:Exit→Act→World→Prop)(R:List PanicEntry→World→Prop):Exit→Act→World→Prop
 | .panic c,a,w=>a.defers=[]∧R c w
 |e,a,w=>Q e a w
theorem z6Q(a:Act)(d:Option Tmp)(v:Value):(a.put d v).defers=a.defers:=by cases d<;>rfl
theorem PanTo.put{R:List PanicEntry→World→Prop}:∀c (a:Act) (d:Option Tmp) (v:Value) w,PanTo Q R (.panic c) (a.put d v) w→PanTo Q R (.panic c) a w:=fun c a d v w h=>⟨(z6Q a d v)▸h.1,h.2⟩
variable {R:List PanicEntry→World→Prop}
theorem PanTo.imp(hR:∀c a w,a.defers=[]→R c w→Q (.panic c) a w):∀ (e:Exit) (a:Act) (w:World),PanTo Q R e a w→Q e a w:=fun e a w h=>by
 cases e<;>first|exact h|exact hR _ _ _ h.1 h.2
theorem z4m{id:Nat}{a:Act}{w:World}(st:Nat)(hm:P.follows .mixedOrders=true)(hR:∀c a w,a.defers=[]→R c w→Q (.panic c) a w)
  (h:z0J P ops (PanTo Q R) S st ops.size (Array.replicate ops.size false) a w.drew):(Code.region id ops true).wp P Q a w:=
 Code.wp_mono (PanTo.imp hR) (wp_region_any hm (z6l _ _ _ _ h))
def q1q(ops:Array Oper)(st i:Nat):Bool:=match ops[st]? with
 |some o=>o.after.any (fun e=>Region.binds .any e && e.on==i)
 |none=>true
theorem z9E{i:Nat}(h:q1q ops st i=true):∀o,ops[st]?=some o→∃e∈o.after,Region.binds .any e=true∧e.on=i:=by
 intro o ho;unfold q1q at h;rw[ho]at h;obtain⟨k,hk,_,_,hb⟩:=Array.any_iff_exists.1 h;simp only[Bool.and_eq_true,beq_iff_eq]at hb;exact⟨o.after[k],Array.getElem_mem hk,hb⟩
def z7V(ops:Array Oper)(st:Nat):List Nat→Array Bool→Bool
 |[],_=>true
 |i::r,l=>Region.free .any ops l i && (Region.ready .any ops l).contains i && (i !=st) && q1q ops st i && !(l.getD st true) && z7V ops st r (l.setIfInBounds i true)
theorem q0q(hs:Region.noSelect ops=true):
  ∀ (z:List Nat) (os:List Oper) (l:Array Bool) (a:Act) (w:World) (y:Nat),z.map (ops[·]?)=os.map some→os.all (fun o=>z2Z o.op)=true→z7V ops st z l=true→S w→
   wpQuiet P ops S (fun a'=>z0J P ops (PanTo Q R) S st y (z3o z l) a' w) os a→z0J P ops (PanTo Q R) S st (y+z.length) l a w:=by
 intro z;induction z with
 |nil=>
  intro os l a w y d _ _ _ h
  cases os with
  |nil=>exact h
  |cons o os=>simp at d
 |cons i r ih=>
  intro os l a w y d A J hS h
  cases os with
  |nil=>simp at d
  |cons o os=>
   simp only[List.map_cons,List.cons.injEq]at d;simp only[List.all_cons,Bool.and_eq_true]at A;simp only[z7V,Bool.and_eq_true,bne_iff_ne,ne_eq,Bool.not_eq_true']at J;obtain⟨⟨⟨⟨⟨hf,hr⟩,I⟩,L⟩,hl⟩,C⟩:=J;simp only[wpQuiet]at h;by_cases hw:Region.wanted o (yielded ops a.tmps)=true
   ·rw[if_pos hw]at h;obtain⟨v,hv,hk⟩:=h;refine z4l (i:=i) (oi:=o) (v:=v) d.1 (Region.noSelect_spec hs) (fun c a w h=>PanTo.put c a _ _ w h) I (z9E L) _ l a w (Region.free_spec d.1 hf) (by simpa using hr) (Or.inl ⟨hw,fun u hu=>?_⟩) hS hl (ih os _ _ w y d.2 A.2 C hS hk);have hq:=hv u hu;unfold Oper.quietAt at hq
    cases hrun:(execOp a.eval o).run P u with
    |ok n u'=>
     obtain⟨x,rfl⟩:=z3g A.1 hrun;rw[hrun]at hq;obtain⟨e1,e2⟩:=hq;rw[e1,e2]
    |halt x u'=>
     rw[hrun]at hq;exact hq.elim
   ·rw[if_neg hw]at h;have M:Region.wanted o (yielded ops a.tmps)=false:=by simpa using hw
    exact z4l (i:=i) (oi:=o) (v:=undef) d.1 (Region.noSelect_spec hs) (fun c a w h=>PanTo.put c a _ _ w h) I (z9E L) _ l a w (Region.free_spec d.1 hf) (by simpa using hr) (Or.inr ⟨M,rfl⟩) hS hl (ih os _ _ w y d.2 A.2 C hS h)
theorem segX(rs:List (Nat × Nat))(fuel:Nat){F:Nat}{l:Array Bool}{a:Act}{w:World}(hF:F=fuel+(z43 rs).length)(hs:Region.noSelect ops=true)(hm:(z43 rs).map (ops[·]?)=(z2l ops.toList rs).map some)
  (hp:(z2l ops.toList rs).all (fun o=>z2Z o.op)=true) (hok:z7V ops st (z43 rs) l=true) (hS:S w)
  (h:wpQuiet P ops S (fun a'=>z0J P ops (PanTo Q R) S st fuel (z3o (z43 rs) l) a' w) (z2l ops.toList rs) a):z0J P ops (PanTo Q R) S st F l a w:=by
 subst hF;exact q0q hs (z43 rs) _ l a w fuel hm hp hok hS h
theorem q5R(i:Nat)(d:Option Tmp)(f:Nat)(args:Array Value)(fuel:Nat){F:Nat}{l:Array Bool}{a:Act}{w:World}(hF:F=fuel+1)
  (hd:(ops[i]?).map (·.dst)=some d) (hr:Region.ready .any ops l=[i]) (hw:(ops[i]?).map (fun o=>Region.wanted o (yielded ops a.tmps))=some true)
  (hrun:(ops[i]?).map (fun o=>(execOp a.eval o).run P w)=some (.ok (.enter f args) w))
  (hdf:a.defers=[]) (hc:Calls P f args w (fun e w'=>(∃v,e=.returned v∧S w'∧z0J P ops (PanTo Q R) S st fuel (z3o [i] l) (a.put d v) w')∨∃c,e=.panicked c∧R c w')):z0J P ops (PanTo Q R) S st F l a w:=by
 subst hF
 cases ho:ops[i]? with
 |none=>rw[ho]at hd;simp at hd
 |some o=>
  rw[ho]at hd hw hrun;simp only[Option.map_some,Option.some.injEq]at hd hw hrun;subst hd;refine⟨fun h0=>(by rw[hr]at h0;cases h0),fun j hj=>?_⟩;rw[hr]at hj;simp only[List.mem_singleton]at hj;subst hj;unfold wpOp;simp only[ho,hw,if_true];refine .inl ?_;unfold Oper.wp;rw[hrun];simp only[Oper.upon];refine hc.mono fun e w' he=>?_
  rcases he with⟨v,rfl,h1,h2⟩|⟨c,rfl,h1⟩
  ·exact⟨Or.inr h1,h2⟩
  ·exact⟨hdf,h1⟩
def ThenX(Q:Exit→Act→World→Prop)(R:List PanicEntry→World→Prop)(K:Act→World→Prop):Exit→Act→World→Prop
 | .normal,a,w=>K a w
 |e,a,w=>PanTo Q R e a w
theorem ThenX.to{K:Act→World→Prop}{a:Act}{w:World}(h:K a w):ThenX Q R K .normal a w:=h
theorem oneX(i:Nat)(o:Oper)(fuel:Nat){F:Nat}{l:Array Bool}{a:Act}{w:World}(hF:F=fuel+1)(ho:ops[i]?=some o)(hr:Region.ready .any ops l=[i])
  (h:wpList P ops (ThenX Q R (fun a' w'=>((z3o [i] l).getD st true=true∨S w')∧z0J P ops (PanTo Q R) S st fuel (z3o [i] l) a' w')) [o] a w):z0J P ops (PanTo Q R) S st F l a w:=by
 subst hF;refine⟨fun h0=>(by rw[hr]at h0;cases h0),fun j hj=>?_⟩;rw[hr]at hj;simp only[List.mem_singleton]at hj;subst hj;unfold wpOp;simp only[ho];simp only[wpList]at h;split at h
 ·rename_i hw
  rw[if_pos hw];rcases h with h|⟨h1,h2⟩
  ·left;unfold Oper.wp at h⊢;revert h;generalize (execOp a.eval o).run P w=r;intro h;unfold Oper.upon at h⊢;split at h
   ·exact h
   ·exact h
   ·exact h
   ·refine Calls.mono h fun e w' he=>?_
    cases e<;>exact he
   ·exact h
   ·exact h
   ·exact h
  ·exact Or.inr ⟨h1,h2⟩
 ·rename_i hw
  rw[if_neg hw];exact h
theorem q3D{F:Nat}{l:Array Bool}{a:Act}{w:World}(hr:Region.ready .any ops l=[])(h:Q .normal a w):z0J P ops (PanTo Q R) S st F l a w:=by
 cases F with
 |zero=>exact⟨hr,h⟩
 |succ F=>exact⟨fun _=>h,by rw[hr];simp⟩
theorem sgX(rs:List (Nat × Nat))(fuel:Nat){F:Nat}{l:Array Bool}{a:Act}{w:World}(h5:(F,Region.noSelect ops,(z43 rs).map (ops[·]?),(z2l ops.toList rs).all (fun o=>z2Z o.op),z7V ops st (z43 rs) l)=(fuel+(z43 rs).length,true,(z2l ops.toList rs).map some,true,true))(hS:S w)
  (h:wpQuiet P ops S (fun a'=>z0J P ops (PanTo Q R) S st fuel (z3o (z43 rs) l) a' w) (z2l ops.toList rs) a):z0J P ops (PanTo Q R) S st F l a w:=by
 simp only[Prod.mk.injEq]at h5;exact segX rs fuel h5.1 h5.2.1 h5.2.2.1 h5.2.2.2.1 h5.2.2.2.2 hS h
theorem clX(i:Nat)(d:Option Tmp)(f:Nat)(args:Array Value)(fuel:Nat){F:Nat}{l:Array Bool}{a:Act}{w:World}(h5:(F,(ops[i]?).map (·.dst),Region.ready .any ops l,(ops[i]?).map (fun o=>Region.wanted o (yielded ops a.tmps)),(ops[i]?).map (fun o=>(execOp a.eval o).run P w))=(fuel+1,some d,[i],some true,some (.ok (.enter f args) w)))
  (hdf:a.defers=[]) (hc:Calls P f args w (fun e w'=>(∃v,e=.returned v∧S w'∧z0J P ops (PanTo Q R) S st fuel (z3o [i] l) (a.put d v) w')∨∃c,e=.panicked c∧R c w')):z0J P ops (PanTo Q R) S st F l a w:=by
 simp only[Prod.mk.injEq]at h5;exact q5R i d f args fuel h5.1 h5.2.1 h5.2.2.1 h5.2.2.2.1 h5.2.2.2.2 hdf hc
theorem onX(i:Nat){o:Oper}(fuel:Nat){F:Nat}{l:Array Bool}{a:Act}{w:World}(ho:ops[i]?=some o)(h2:(F,Region.ready .any ops l)=(fuel+1,[i]))
  (h:wpList P ops (ThenX Q R (fun a' w'=>((z3o [i] l).getD st true=true∨S w')∧z0J P ops (PanTo Q R) S st fuel (z3o [i] l) a' w')) [o] a w):z0J P ops (PanTo Q R) S st F l a w:=by
 simp only[Prod.mk.injEq]at h2;exact oneX i o fuel h2.1 ho h2.2 h
end
def q5S(x:UndoD):Int:=
 if inW x.key 1 20=false∨inW x.val (-20000) 20000=false then 3 else if x.was=false∧x.val≠0 then 1 else 0
end Go.Proofs.YtlkpdgjnhkjpjaaGreatDoor

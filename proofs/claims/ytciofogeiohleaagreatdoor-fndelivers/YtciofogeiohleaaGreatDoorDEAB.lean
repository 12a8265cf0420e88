/- Texts joined,with what the laws reach alone. -/
import Derived.Test.YtciofogeiohleaaGreatDoorDEAA
import Derived.Shelf.SortM.Plain
import Derived.Shelf.SortM.SortNone
import Derived.Shelf.SlicesG.In.CompactI
import Derived.Shelf.SlIterI.Nil
import Derived.Laws.StructEq
import Derived.Laws.Rows
import Derived.Laws.Tables
import Derived.Deep.MidRow
import Derived.Sort.EveryDepth
set_option linter.unusedVariables false
set_option linter.unusedSimpArgs false
set_option maxRecDepth 100000
set_option maxHeartbeats 4000000
namespace Go.Proofs.YtciofogeiohleaaGreatDoor
open Go.RowKit Go.BigFrame
def OwnS(e size lo hi:Nat)(w:World)(v:Value)(n:Nat)(xs:List Value):Prop:=w.ownsRow lo e size v n xs∧∀g,v.ownBlock=some g→g<hi
theorem OwnS.of{e size lo n:Nat}{w:World}{v:Value}{xs:List Value}(o:w.ownsRow lo e size v n xs):OwnS e size lo w.heap.size w v n xs:=⟨o,fun g hg=>(o.lt g hg).2⟩
theorem OwnS.below{e size lo hi n:Nat}{w w':World}{v:Value}{xs:List Value}(o:OwnS e size lo hi w v n xs)(hb:Below w.heap.size w w'):OwnS e size lo hi w' v n xs:=⟨z0a o.1 hb,o.2⟩
theorem OwnS.only{e size lo hi n lo' hi':Nat}{w w':World}{v:Value}{xs:List Value}(o:OwnS e size lo hi w v n xs)(h:Only lo' hi' w w')(hh:hi'≤lo):OwnS e size lo hi w' v n xs:=⟨z1D o.1 h hh,o.2⟩
theorem OwnS.lies{e size lo hi n c:Nat}{w:World}{a:Option Addr}{xs:List Value}(o:OwnS e size lo hi w (.slice a n c) n xs):Lies w a xs:=Lies.own o.1
theorem OwnS.wide{e size lo hi n lo' hi':Nat}{w:World}{v:Value}{xs:List Value}(o:OwnS e size lo hi w v n xs)(h:lo'≤lo)(hh:hi≤hi'):OwnS e size lo' hi' w v n xs:=⟨z0m o.1 h,fun g hg=>Nat.lt_of_lt_of_le (o.2 g hg) hh⟩
theorem OwnS.grown{e size lo hi n:Nat}{w w':World}{v:Value}{xs:List Value}(o:OwnS e size lo hi w v n xs)(hg:w.grownBy w' v.ownBlock):Only lo hi w w':=z2s hg (fun g h=>⟨(o.1.lt g h).1,o.2 g h⟩)
theorem OwnS.beside{e size lo hi n:Nat}{w w':World}{v v':Value}{xs:List Value}(o:OwnS e size lo hi w v n xs)(hg:w.grownBy w' v'.ownBlock)(h:v.ownBlock=none∨v.ownBlock≠v'.ownBlock):OwnS e size lo hi w' v n xs:=⟨o.1.kept hg h,o.2⟩
theorem OwnTxns.only{lo hi lo' hi':Nat}{w w':World}{v:Value}{ds:List TxnD}(h:OwnTxns lo hi w v ds)(ho:Only lo' hi' w w')(hh:hi'≤lo):OwnTxns lo hi w' v ds:=by
 obtain⟨g,cap,ps,e,hg,hd,o,hp⟩:=h;exact⟨g,cap,ps,e,hg,hd,z1D o ho hh,fun p hm=>⟨z1D (hp p hm).1 ho hh,(hp p hm).2⟩⟩
section
open Go.Sort Go.Shelf
def z6h:Go.Shelf.Ren:=⟨fun|5=>212|8=>227|7=>226|19=>242|20=>243|10=>233|11=>234|12=>235|13=>236|14=>237|15=>238|16=>239|17=>240|18=>241|30=>248|31=>249|32=>250|33=>251|34=>252|35=>253|40=>256|n=>n,fun|23=>47|25=>2|3=>3|32=>269|22=>47|0=>0|44=>309|46=>298|4=>4|36=>302|35=>301|41=>306|5=>5|9=>9|53=>317|57=>321|63=>325|64=>326|n=>n,fun|n=>n⟩
theorem z79:Go.Proofs.SlLaysM.n5 Tryz.prog z6h:={
 mixed:=by kernel_rfl,
 f5:=⟨Tryz.f212.name,by decide,Tryz.func212.trans (congrArg some (by kernel_rfl))⟩,
 f7:=⟨Tryz.f226.name,by decide,Tryz.func226.trans (congrArg some (by kernel_rfl))⟩,
 f8:=Tryz.func227.trans (congrArg some (by kernel_rfl)),
 f10:=⟨Tryz.f233.name,by decide,Tryz.func233.trans (congrArg some (by kernel_rfl))⟩,
 f11:=⟨Tryz.f234.name,by decide,Tryz.func234.trans (congrArg some (by kernel_rfl))⟩,
 f12:=⟨Tryz.f235.name,by decide,Tryz.func235.trans (congrArg some (by kernel_rfl))⟩,
 f13:=⟨Tryz.f236.name,by decide,Tryz.func236.trans (congrArg some (by kernel_rfl))⟩,
 f14:=⟨Tryz.f237.name,by decide,Tryz.func237.trans (congrArg some (by kernel_rfl))⟩,
 f15:=⟨Tryz.f238.name,by decide,Tryz.func238.trans (congrArg some (by kernel_rfl))⟩,
 f16:=⟨Tryz.f239.name,by decide,Tryz.func239.trans (congrArg some (by kernel_rfl))⟩,
 f17:=⟨Tryz.f240.name,by decide,Tryz.func240.trans (congrArg some (by kernel_rfl))⟩,
 f18:=⟨Tryz.f241.name,by decide,Tryz.func241.trans (congrArg some (by kernel_rfl))⟩,
 f19:=Tryz.func242.trans (congrArg some (by kernel_rfl)),
 f20:=Tryz.func243.trans (congrArg some (by kernel_rfl)),
 f30:=⟨Tryz.f248.name,by decide,Tryz.func248.trans (congrArg some (by kernel_rfl))⟩,
 f31:=Tryz.func249.trans (congrArg some (by kernel_rfl)),
 f32:=Tryz.func250.trans (congrArg some (by kernel_rfl)),
 f33:=⟨Tryz.f251.name,by decide,Tryz.func251.trans (congrArg some (by kernel_rfl))⟩,
 f34:=⟨Tryz.f252.name,by decide,Tryz.func252.trans (congrArg some (by kernel_rfl))⟩,
 f35:=⟨Tryz.f253.name,by decide,Tryz.func253.trans (congrArg some (by kernel_rfl))⟩,
 f40:=⟨Tryz.f256.name,by decide,Tryz.func256.trans (congrArg some (by kernel_rfl))⟩,
 t0:=Tryz.underlying0,
 a0:=Tryz.isAgg0,
 z0:=Tryz.sizeOf0,
 v0:=Tryz.zeroValue0,
 t3:=Tryz.underlying3,
 a3:=Tryz.isAgg3,
 z3:=Tryz.sizeOf3,
 v3:=Tryz.zeroValue3,
 t4:=Tryz.underlying4,
 a4:=Tryz.isAgg4,
 z4:=Tryz.sizeOf4,
 v4:=Tryz.zeroValue4,
 t5:=Tryz.underlying5,
 a5:=Tryz.isAgg5,
 z5:=Tryz.sizeOf5,
 v5:=Tryz.zeroValue5,
 t9:=Tryz.underlying9,
 a9:=Tryz.isAgg9,
 z9:=Tryz.sizeOf9,
 v9:=Tryz.zeroValue9,
 t22:=Tryz.underlying47,
 a22:=Tryz.isAgg47,
 z22:=Tryz.sizeOf47,
 v22:=Tryz.zeroValue47,
 t23:=Tryz.underlying47,
 a23:=Tryz.isAgg47,
 z23:=Tryz.sizeOf47,
 v23:=Tryz.zeroValue47,
 t25:=Tryz.underlying2,
 a25:=Tryz.isAgg2,
 z25:=Tryz.sizeOf2,
 v25:=Tryz.zeroValue2,
 t32:=Tryz.underlying269,
 a32:=Tryz.isAgg269,
 z32:=Tryz.sizeOf269,
 v32:=Tryz.zeroValue269,
 t35:=Tryz.underlying301,
 a35:=Tryz.isAgg301,
 z35:=Tryz.sizeOf301,
 v35:=Tryz.zeroValue301,
 t36:=Tryz.underlying302,
 a36:=Tryz.isAgg302,
 z36:=Tryz.sizeOf302,
 v36:=Tryz.zeroValue302,
 t41:=Tryz.underlying306,
 a41:=Tryz.isAgg306,
 z41:=Tryz.sizeOf306,
 v41:=Tryz.zeroValue306,
 t44:=Tryz.underlying309,
 a44:=Tryz.isAgg309,
 z44:=Tryz.sizeOf309,
 v44:=Tryz.zeroValue309,
 t46:=Tryz.underlying298,
 a46:=Tryz.isAgg298,
 z46:=Tryz.sizeOf298,
 v46:=Tryz.zeroValue298,
 t53:=Tryz.underlying317,
 a53:=Tryz.isAgg317,
 z53:=Tryz.sizeOf317,
 v53:=Tryz.zeroValue317,
 t57:=Tryz.underlying321,
 a57:=Tryz.isAgg321,
 z57:=Tryz.sizeOf321,
 v57:=Tryz.zeroValue321,
 t63:=Tryz.underlying325,
 a63:=Tryz.isAgg325,
 z63:=Tryz.sizeOf325,
 v63:=Tryz.zeroValue325,
 t64:=Tryz.underlying326,
 a64:=Tryz.isAgg326,
 z64:=Tryz.sizeOf326,
 v64:=Tryz.zeroValue326 }
end
section
open Go.Maps Go.Sort Go.Shelf
def z4l:Go.Shelf.Ren:=⟨fun|7=>194|10=>213|n=>n,fun|23=>214|26=>2|3=>2|28=>266|0=>0|27=>265|33=>212|4=>4|n=>n,fun|n=>n⟩
theorem z8a:Go.Proofs.SlLaysZI.n7 Tryz.prog z4l:={
 mixed:=by kernel_rfl,
 f7:=⟨Tryz.f194.name,by decide,Tryz.func194.trans (congrArg some (by kernel_rfl))⟩,
 f10:=⟨Tryz.f213.name,by decide,Tryz.func213.trans (congrArg some (by kernel_rfl))⟩,
 t0:=Tryz.underlying0,
 a0:=Tryz.isAgg0,
 z0:=Tryz.sizeOf0,
 v0:=Tryz.zeroValue0,
 t4:=Tryz.underlying4,
 a4:=Tryz.isAgg4,
 z4:=Tryz.sizeOf4,
 v4:=Tryz.zeroValue4,
 t23:=Tryz.underlying214,
 a23:=Tryz.isAgg214,
 z23:=Tryz.sizeOf214,
 v23:=Tryz.zeroValue214,
 t26:=Tryz.underlying2,
 a26:=Tryz.isAgg2,
 z26:=Tryz.sizeOf2,
 v26:=Tryz.zeroValue2,
 t27:=Tryz.underlying265,
 a27:=Tryz.isAgg265,
 z27:=Tryz.sizeOf265,
 v27:=Tryz.zeroValue265,
 t28:=Tryz.underlying266,
 a28:=Tryz.isAgg266,
 z28:=Tryz.sizeOf266,
 v28:=Tryz.zeroValue266,
 t33:=Tryz.underlying212,
 a33:=Tryz.isAgg212,
 z33:=Tryz.sizeOf212,
 v33:=Tryz.zeroValue212 }
def z2X:Go.Shelf.Ren:=⟨fun|6=>193|8=>211|9=>212|11=>225|13=>227|12=>226|23=>242|24=>243|14=>233|15=>234|16=>235|17=>236|18=>237|19=>238|20=>239|21=>240|22=>241|25=>248|26=>249|27=>250|28=>251|29=>252|30=>253|31=>256|n=>n,fun|26=>2|28=>266|24=>47|0=>0|3=>3|37=>269|48=>309|50=>298|4=>4|40=>302|39=>301|45=>306|5=>5|9=>9|51=>317|55=>321|57=>325|58=>326|33=>212|n=>n,fun|n=>n⟩
theorem z7K:Go.Proofs.SlLaysZI.n6 Tryz.prog z2X:={
 mixed:=by kernel_rfl,
 f6:=⟨Tryz.f193.name,by decide,Tryz.func193.trans (congrArg some (by kernel_rfl))⟩,
 f8:=⟨Tryz.f211.name,by decide,Tryz.func211.trans (congrArg some (by kernel_rfl))⟩,
 f11:=⟨Tryz.f225.name,by decide,Tryz.func225.trans (congrArg some (by kernel_rfl))⟩,
 t0:=Tryz.underlying0,
 a0:=Tryz.isAgg0,
 z0:=Tryz.sizeOf0,
 v0:=Tryz.zeroValue0,
 t24:=Tryz.underlying47,
 a24:=Tryz.isAgg47,
 z24:=Tryz.sizeOf47,
 v24:=Tryz.zeroValue47,
 t26:=Tryz.underlying2,
 a26:=Tryz.isAgg2,
 z26:=Tryz.sizeOf2,
 v26:=Tryz.zeroValue2,
 t28:=Tryz.underlying266,
 a28:=Tryz.isAgg266,
 z28:=Tryz.sizeOf266,
 v28:=Tryz.zeroValue266,
 i26:=by kernel_rfl }
end
theorem z7L{n lo hi:Int}:inW n lo hi=true↔lo≤n∧n≤hi:=by simp[inW]
theorem z6R{zs:List ActD}(h:z1L zs=0):∀z∈zs,actF z=0:=by
 induction zs with
 |nil=>simp
 |cons x r ih=>
  simp only[z1L]at h;split at h
  ·rename_i hx
   intro z hz;rcases List.mem_cons.1 hz with rfl|hz
   ·exact hx
   ·exact ih h z hz
  ·rename_i hx;exact absurd h hx
theorem z6S{i s q:Int}{zs:List ActD}(h:txnF i s q zs=0):(1≤i∧i≤200)∧(1≤s∧s≤9)∧(1≤q∧q≤99)∧(1≤zs.length∧zs.length≤4)∧∀z∈zs,actF z=0:=by
 unfold txnF at h;split at h
 ·simp at h
 ·rename_i h1
  split at h
  ·simp at h
  ·rename_i h2
   simp only[not_or,Bool.not_eq_false,z7L]at h1;exact⟨h1.1,h1.2.1,h1.2.2,by omega,z6R h⟩
theorem Box4.cells{w:World}{b o:Nat}{x0 x1 x2 x3:Value}(h:Box4 w b o x0 x1 x2 x3):b<w.heap.size:=World.block_lt_of_cell? w ⟨b,o,none⟩ h.c0
structure Box2 (w:World) (b:Nat) (x y:Value):Prop where
 lt:b<w.heap.size
 c0:w.cell? ⟨b,0,none⟩=some x
 c1:w.cell? ⟨b,1,none⟩=some y
 f0:w.frozen? ⟨b,0,none⟩=false
 f1:w.frozen? ⟨b,1,none⟩=false
theorem Box2.below{w w':World}{b:Nat}{x y:Value}(h:Box2 w b x y)(hb:Below w.heap.size w w'):Box2 w' b x y:=
 ⟨Nat.lt_of_lt_of_le h.lt hb.size,by rw[hb.cell (p:=⟨b,0,none⟩) h.lt];exact h.c0,by rw[hb.cell (p:=⟨b,1,none⟩) h.lt];exact h.c1,by rw[hb.frozen (p:=⟨b,0,none⟩) h.lt];exact h.f0,by rw[hb.frozen (p:=⟨b,1,none⟩) h.lt];exact h.f1⟩
def TxnD.F(d:TxnD):Int:=txnF d.id d.session d.seq d.acts
def z50:List TxnD→Int
 |[]=>0
 |d::r=>if d.F=0 then z50 r else d.F
def idsC(ds:List TxnD):Int:=if 60<ds.length then 2 else z50 ds
def idsR(ds:List TxnD):List Int:=if idsC ds=0 then ds.map TxnD.id else []
def idsL(ds:List TxnD)(k:Nat):List Int:=(ds.take k).map TxnD.id
theorem z6T(ds:List TxnD)(k:Nat)(h:k<ds.length):idsL ds (k+1)=idsL ds k++[(ds.getD k z0n).id]:=by
 have e:ds.getD k z0n=ds[k]:=by simp[List.getD,h]
 rw[idsL,idsL,List.take_succ_eq_append_getElem h,e];simp only[List.map_append,List.map_cons,List.map_nil]
theorem z5L(ds:List TxnD)(k:Nat)(h:k≤ds.length):(idsL ds k).length=k:=by simp[idsL];omega
theorem z6i(ds:List TxnD):∀k,(∀j,j<k→(ds.getD j z0n).F=0)→k<ds.length→(ds.getD k z0n).F≠0→z50 ds=(ds.getD k z0n).F:=by
 induction ds with
 |nil=>intro k _ h;simp at h
 |cons x r ih=>
  intro k h0 hk hne
  cases k with
  |zero=>simp[List.getD]at hne⊢;simp[z50,hne]
  |succ k=>
   have hx:x.F=0:=by simpa[List.getD]using h0 0 (by omega)
   have:=ih k (fun j hj=>by simpa[List.getD]using h0 (j+1) (by omega)) (by simpa using hk) (by simpa[List.getD]using hne);simp only[z50,hx,if_true];rw[this];simp[List.getD]
theorem z6U(ds:List TxnD)(h:∀j,j<ds.length→(ds.getD j z0n).F=0):z50 ds=0:=by
 induction ds with
 |nil=>rfl
 |cons x r ih=>
  have hx:x.F=0:=by simpa[List.getD]using h 0 (by simp)
  simp only[z50,hx,if_true];exact ih (fun j hj=>by simpa[List.getD]using h (j+1) (by simpa using hj))
theorem TxnsAt.box{w:World}{b off i:Nat}{z:TxnD}{aa:Option Addr}{cc:Nat}(h0:w.cell? ⟨b,off+i*4,none⟩=some (.int .i64 z.id))(h1:w.cell? ⟨b,off+i*4+1,none⟩=some (.int .i64 z.session))(h2:w.cell? ⟨b,off+i*4+2,none⟩=some (.int .i64 z.seq))
  (h3:w.cell? ⟨b,off+i*4+3,none⟩=some (.slice aa z.acts.length cc)):Box4 w b (off+i*4) (.int .i64 z.id) (.int .i64 z.session) (.int .i64 z.seq) (.slice aa z.acts.length cc):=⟨h0,h1,h2,h3⟩
theorem z7M{ds:List TxnD}(h:idsC ds=0):ds.length≤60:=by
 unfold idsC at h;split at h
 ·simp at h
 ·omega
theorem z4E(v:Value)(ds:List TxnD)(w:World)(h:TxnsAt w v ds)(hl:ds.length+z49 ds≤1048576):
  Calls Tryz.prog 83 #[v] w fun e w'=>∃b c,e=.returned (.agg #[.int .i64 (idsC ds),.slice b (idsR ds).length c])∧
   w'.ownsRow w.heap.size 2 1 (.slice b (idsR ds).length c) (idsR ds).length ((idsR ds).map (Value.int .i64))∧Below w.heap.size w w':=by
 obtain⟨a,cap,rfl⟩:=h.shape;by_cases Y:60<ds.length
 ·have e1:idsC ds=2:=if_pos Y;have e2:idsR ds=[]:=if_neg (by rw[e1];decide);rw[e1,e2];clear e1 e2;go_enter Tryz.func83,Tryz.ntmps83
  go_wp2
  exact bodyPost_ret (v:=.agg #[.int .i64 2,.slice none 0 0]) (by simp[results,Tryz.results83,go_sem]) rfl ⟨_,_,rfl,World.ownsRow_nil _ _ _ _,by go_grown⟩
 ·have e1:idsC ds=z50 ds:=if_neg Y;have O:Box2 (w.alloc (.cells #[.int .i64 0,.slice none 0 0] 126)) w.heap.size (.int .i64 0) (.slice none 0 0):=⟨by simp,by simp,by simp,by simp,by simp⟩
  have J:Below w.heap.size w (w.alloc (.cells #[.int .i64 0,.slice none 0 0] 126)):=by go_grown
  obtain⟨i0,hi,al,am,an⟩:=info_parts z5I;go_enter Tryz.func83,Tryz.ntmps83
  go_wp2
  generalize w.alloc (.cells #[.int .i64 0,.slice none 0 0] 126)=W at O J;have aq:=O.lt;go_loopw[3,13] (fun v j wr=>∃k:Nat,k≤ds.length∧j=.int .i64 k∧wr.ownsRow W.heap.size 2 1 v (idsL ds k).length ((idsL ds k).map (Value.int .i64))∧Below W.heap.size W wr∧Hid (∀j,j<k→(ds.getD j z0n).F=0)) (fun _ j _=>ds.length-(intOf j).toNat)
  case atStart=>exact⟨0,Nat.zero_le _,rfl,World.ownsRow_nil _ _ _ _,Below.refl _ _,fun j hj=>absurd hj (Nat.not_lt_zero _)⟩
  case round=>
   obtain⟨k,hk,rfl,ho,hb,HA⟩:=hrel;have ak:=hb.size;have ai:(idsL ds k).length≤60:=by rw[z5L ds k hk];omega
   obtain⟨a1,c1,rfl⟩:=z0b ho;by_cases T:k<ds.length
   ·obtain⟨b,ar,aa,cc,rfl,ao,A,C,D,I,hA⟩:=(h.below (z0l J hb)).at k T;have U:(ds.getD k z0n).acts.length≤z49 ds:=z05 (by simp[List.getD,T]);have d:=fun w h=>z1O (ds.getD k z0n).id (ds.getD k z0n).session (ds.getD k z0n).seq aa cc (ds.getD k z0n).acts w h (by omega)
    change∀w h,Calls _ _ _ _ fun e w'=>e=.returned (.int .i64 ((ds.getD k z0n).F))∧_ at d
    by_cases hF:(ds.getD k z0n).F=0
    ·have HB:Hid (∀j,j<k+1→(ds.getD j z0n).F=0):=by
      intro j hj;by_cases ag:j=k
      ·subst ag;exact hF
      ·exact HA.out j (by omega)
     have af:Hid (idsL ds (k+1)=idsL ds k++[(ds.getD k z0n).id]):=z6T ds k T;rw[hF]at d;clear HA hF;generalize ds.getD k z0n=z at A C D I hA d af U;obtain⟨z0,z1,z2,zs⟩:=z;dsimp only at A C D I hA d U;have x:Below wr.heap.size wr (wr.alloc (.cells #[.int .i64 z0,.int .i64 z1,.int .i64 z2,.slice aa zs.length cc] 44)):=by go_grown
     have V:=Blk.new wr 44 #[.int .i64 z0,.int .i64 z1,.int .i64 z2,.slice aa zs.length cc]
     go_wp2_with fail
     generalize wr.alloc (.cells #[.int .i64 z0,.int .i64 z1,.int .i64 z2,.slice aa zs.length cc] 44)=w1 at x V;refine(d _ (hA.below x)).mono ?_;rintro e w2 ⟨rfl,y⟩;replace x:=x.trans (y.mono x.size);have p0:=(V.below y).cell 0 _ rfl;have X:=z0a ho x;have ap:=x.size;clear y V d hA A C D I;have Z:Below W.heap.size w2 (w2.alloc (.cells #[.int .i64 z0] 2)):=(Below.refl _ _).alloc (by omega) _;have ae:=X.alloc (.cells #[.int .i64 z0] 2)
     go_wp2_with (at_builtin;refine wpList_append_own _ rfl _ _ 47 rfl W.heap.size 2 i0 (.int .i64 0) 1 8 Tryz.underlying47 hi al am an rfl (by decide) _ (idsL ds k).length ((idsL ds k).map (Value.int .i64)) rfl ae ⟨w2.heap.size,0,none⟩ 1 1 [.int .i64 z0] rfl rfl ?c1 ?c2 ?c3 ?c4 ?c5 ?_)
     all_goals try
      (case c1=>intro j u hj;match j,hj with|0,hj=>simp at hj;subst hj;simp[Addr.add])
     all_goals try(case c2=>first|rfl|(intro u hu;simp at hu;subst hu;rfl))
     all_goals try(case c3=>unfold maxLen;omega)
     all_goals try(case c4=>omega)
     all_goals try(case c5=>first|omega|(simp;omega))
     intro v' w3 N M _;obtain⟨a2,c2,rfl⟩:=z0b N;have ab:Below W.heap.size w2 w3:=Z.grown M (by simp;omega) (fun j hj=>(X.lt j hj).1);have R:Hid (w3.ownsRow W.heap.size 2 1 (.slice a2 ((idsL ds k).length+1) c2) ((idsL ds k).length+1) ((idsL ds k++[z0]).map (Value.int .i64))∧Below W.heap.size W w3):=⟨by simpa using N,(hb.trans (x.mono ak)).trans ab⟩
     clear Z M ae ho N ab X x p0
     go_wp2
     go_roundw
     case rel=>
      refine⟨k+1,by omega,by go_num,?_,R.out.2,HB⟩;rw[af.out];simpa using R.out.1
     case measure=>simp[intOf];omega
    ·have E:Hid (z50 ds=(ds.getD k z0n).F):=z6i ds k HA.out T hF;have aj:((ds.getD k z0n).F !=0)=true:=by simpa using hF
     have E2:Hid (idsR ds=[]):=if_neg (by rw[e1,E.out];exact hF);clear HA hF;generalize (ds.getD k z0n).F=r at d E aj;generalize ds.getD k z0n=z at A C D I hA d U;obtain⟨z0,z1,z2,zs⟩:=z;dsimp only at A C D I hA d U;have x:Below wr.heap.size wr (wr.alloc (.cells #[.int .i64 z0,.int .i64 z1,.int .i64 z2,.slice aa zs.length cc] 44)):=by go_grown
     have E1:Hid (idsC ds=z50 ds):=e1;clear e1
     go_wp2_with fail
     generalize wr.alloc (.cells #[.int .i64 z0,.int .i64 z1,.int .i64 z2,.slice aa zs.length cc] 44)=w1 at x;refine(d _ (hA.below x)).mono ?_;rintro e w2 ⟨rfl,y⟩;obtain⟨ad,q0,q1,g0,g1⟩:=((O.below hb).below x).below y;clear d hA A C D I ho
     go_wp2
     refine bodyPost_ret (v:=.agg #[.int .i64 r,.slice none 0 0]) (by simp[results,Tryz.results83,go_sem,q0,q1]) rfl ?_;rw[E1.out,E.out,E2.out];refine⟨_,_,rfl,World.ownsRow_nil _ _ _ _,?_⟩;repeat' (refine Below.setCell ?_ (by dsimp only;omega) _)
     exact z0l (z0l (z0l J hb) x) y
   ·have ah:k=ds.length:=by omega
    subst ah;have E:Hid (idsC ds=0):=e1.trans (z6U ds HA.out);have E2:Hid (idsR ds=idsL ds ds.length):=by
     show _=_;rw[show idsR ds=ds.map TxnD.id from if_pos E.out];simp[idsL]
    clear HA e1;obtain⟨ad,q0,q1,g0,g1⟩:=O.below hb;generalize idsL ds ds.length=L at ho E2 ai
    go_wp2
    refine bodyPost_ret (v:=.agg #[.int .i64 0,.slice a1 L.length c1]) (by simp[results,Tryz.results83,go_sem,q0,q1]) rfl ?_;rw[E.out,E2.out];refine⟨_,_,rfl,?_,?_⟩
    ·refine z0m (base:=W.heap.size) ?_ J.size;repeat' (refine ownsRow_setCell_below ?_ (by dsimp only;omega) _)
     exact ho
    ·repeat' (refine Below.setCell ?_ (by dsimp only;omega) _)
     exact z0l J hb
theorem z1Q(zs:List ActD):∀u∈z0i zs,u.oneCell'=true:=by
 intro u hu;simp only[z0i,List.mem_flatMap,ActD.cells,List.mem_cons,List.not_mem_nil,or_false]at hu;obtain⟨z,_,rfl|rfl|rfl⟩:=hu<;>rfl
theorem z4F{w:World}{b off:Nat}{xs:List Value}(h:Lies w (some ⟨b,off,none⟩) xs):∀j u,xs[j]?=some u→w.cell? ((⟨b,off,none⟩:Addr).add j)=some u:=by
 intro j u hj;rcases h with rfl|⟨b',off',e,_,hc⟩
 ·simp at hj
 ·simp only[Option.some.injEq,Addr.mk.injEq,and_true]at e;obtain⟨rfl,rfl⟩:=e;rw[Addr.add_lit];exact hc j u hj
theorem z4m(i s q:Int)(b d cap:Nat)(zs:List ActD)(w:World)(h:ActRow w (some ⟨b,d,none⟩) zs)(h0:0<zs.length)(hl:zs.length≤1048576):
  Calls Tryz.prog 97 #[.agg #[.int .i64 i,.int .i64 s,.int .i64 q,.slice (some ⟨b,d,none⟩) zs.length cap]] w fun e w'=>∃a c,e=.returned (.agg #[.int .i64 i,.int .i64 s,.int .i64 q,.slice a zs.length c])∧
   w'.ownsRow w.heap.size 163 3 (.slice a zs.length c) zs.length (z0i zs)∧Below w.heap.size w w':=by
 obtain⟨i0,hi,D,E,I⟩:=info_parts z1N;have hs:=z4F (Lies.below h (w':=((w.alloc (.cells #[.int .i64 i,.int .i64 s,.int .i64 q,.slice (some ⟨b,d,none⟩) zs.length cap] 44)).alloc (.cells #[.int .i64 0,.int .i64 0,.int .i64 0,.slice none 0 0] 44)).alloc (.cells #[] 163)) (by go_grown));have C:=z0u zs;have ho:=World.ownsRow_lit (e:=163) (size:=3) ((w.alloc (.cells #[.int .i64 i,.int .i64 s,.int .i64 q,.slice (some ⟨b,d,none⟩) zs.length cap] 44)).alloc (.cells #[.int .i64 0,.int .i64 0,.int .i64 0,.slice none 0 0] 44)) #[] 0 (Nat.le_refl _) (by decide) rfl;have z:Below w.heap.size w (((w.alloc (.cells #[.int .i64 i,.int .i64 s,.int .i64 q,.slice (some ⟨b,d,none⟩) zs.length cap] 44)).alloc (.cells #[.int .i64 0,.int .i64 0,.int .i64 0,.slice none 0 0] 44)).alloc (.cells #[] 163)):=by go_grown
 have B1:=(Blk.new w 44 #[.int .i64 i,.int .i64 s,.int .i64 q,.slice (some ⟨b,d,none⟩) zs.length cap]).below (w':=((w.alloc (.cells #[.int .i64 i,.int .i64 s,.int .i64 q,.slice (some ⟨b,d,none⟩) zs.length cap] 44)).alloc (.cells #[.int .i64 0,.int .i64 0,.int .i64 0,.slice none 0 0] 44)).alloc (.cells #[] 163)) (by go_grown);have B2:=(Blk.new (w.alloc (.cells #[.int .i64 i,.int .i64 s,.int .i64 q,.slice (some ⟨b,d,none⟩) zs.length cap] 44)) 44 #[.int .i64 0,.int .i64 0,.int .i64 0,.slice none 0 0]).below (w':=((w.alloc (.cells #[.int .i64 i,.int .i64 s,.int .i64 q,.slice (some ⟨b,d,none⟩) zs.length cap] 44)).alloc (.cells #[.int .i64 0,.int .i64 0,.int .i64 0,.slice none 0 0] 44)).alloc (.cells #[] 163)) (by go_grown);have HS:Hid (∀j u,(z0i zs)[j]?=some u→_):=hs;clear hs;simp only[World.size_alloc]at B2 ho;go_enter Tryz.func97,Tryz.ntmps97
 go_wp2_with (at_builtin;refine wpList_append_own _ rfl _ _ 42 rfl (w.heap.size+1+1) 163 i0 (.agg #[.int .i64 0,.int .i64 0,.int .i64 0]) 3 24 Tryz.underlying42 hi D E I rfl (by decide) _ 0 [] rfl ho ⟨b,d,none⟩ zs.length cap (z0i zs) rfl C HS.out ?c2 ?c3 ?c4 ?c5 ?_)
 all_goals try(case c2=>exact z1Q zs)
 all_goals try(case c3=>unfold maxLen;omega)
 all_goals try(case c4=>omega)
 all_goals try(case c5=>simp)
 intro v' w2 y x _;obtain⟨a2,c2,rfl⟩:=z0b y;replace B1:=B1.grown x (by simp[Value.ownBlock]<;>omega);replace B2:=B2.grown x (by simp[Value.ownBlock]<;>omega);have A:Below w.heap.size w w2:=z.grown x (by simp;omega) (fun k hk=>by simp[Value.ownBlock]at hk;omega);have J:=B2.lt;obtain⟨p0,p1,p2,p3⟩:=B1.cel4;have pf:=B1.frozen 3;obtain⟨q0,q1,q2,q3⟩:=B2.cel4;obtain⟨f0,f1,f2,f3⟩:=B2.frz4;try simp only[Nat.zero_add]at y
 clear B1 B2 x HS ho z
 go_wp2
 refine bodyPost_ret (v:=.agg #[.int .i64 i,.int .i64 s,.int .i64 q,.slice a2 zs.length c2]) (by simp[results,Tryz.results97,go_sem,q0,q1,q2,q3]) rfl ⟨_,_,rfl,?_,?_⟩
 ·refine z0m (base:=w.heap.size+1+1) ?_ (by omega);repeat' (refine ownsRow_setCell_below ?_ (by dsimp only;omega) _)
  simpa using y
 ·repeat' (refine Below.setCell ?_ (by dsimp only;omega) _)
  exact A
theorem z6V(b y cap:Nat)(zs:List ActD)(w:World)(h:ActRow w (some ⟨b,y,none⟩) zs)(h0:0<zs.length)(hl:zs.length≤1048576):
  Calls Tryz.prog 151 #[.slice (some ⟨b,y,none⟩) zs.length cap] w fun e w'=>∃a c,e=.returned (.slice a zs.length c)∧
   w'.ownsRow w.heap.size 163 3 (.slice a zs.length c) zs.length (z0i zs)∧Below w.heap.size w w':=by
 obtain⟨i0,hi,C,D,E⟩:=info_parts z1N;have hs:=z4F (Lies.below h (w':=w.alloc (.cells #[] 163)) (by go_grown));have A:=z0u zs;have ho:=World.ownsRow_lit (e:=163) (size:=3) w #[] 0 (Nat.le_refl _) (by decide) rfl;have HS:Hid (∀j u,(z0i zs)[j]?=some u→_):=hs;clear hs;have I:∀w,(binOp .eql 42 (.slice (some ⟨b,y,none⟩) zs.length cap) (.slice none 0 0)).run Tryz.prog w=.ok (.bool false) w:=fun w=>by first|rfl|kernel_rfl|(simp only[binOp];simp[Op.equal,Op.maxDepth,Op.equalIn,run_underlying Tryz.underlying42])
 go_enter Tryz.func151,Tryz.ntmps151
 go_wp2_with (at_builtin;refine wpList_append_own _ rfl _ _ 42 rfl w.heap.size 163 i0 (.agg #[.int .i64 0,.int .i64 0,.int .i64 0]) 3 24 Tryz.underlying42 hi C D E rfl (by decide) _ 0 [] rfl ho ⟨b,y,none⟩ zs.length cap (z0i zs) rfl A HS.out ?c2 ?c3 ?c4 ?c5 ?_)
 all_goals try(case c2=>exact z1Q zs)
 all_goals try(case c3=>unfold maxLen;omega)
 all_goals try(case c4=>omega)
 all_goals try(case c5=>simp)
 intro v' w2 x d _;obtain⟨a2,c2,rfl⟩:=z0b x;have z:Below w.heap.size w w2:=((Below.refl _ _).alloc (Nat.le_refl _) _).grown d (by simp) (fun k hk=>by simp[Value.ownBlock]at hk;omega);try simp only[Nat.zero_add]at x
 clear d HS ho
 go_wp2
 go_ret;exact⟨a2,c2,rfl,by simpa using x,z⟩
theorem z1R(i s q:Int)(b off cap:Nat)(zs:List ActD)(w:World)(h:ActRow w (some ⟨b,off,none⟩) zs)(h0:0<zs.length)(hl:zs.length≤1048576):
  Calls Tryz.prog 92 #[.agg #[.int .i64 i,.int .i64 s,.int .i64 q,.slice (some ⟨b,off,none⟩) zs.length cap]] w fun e w'=>∃a c,e=.returned (.agg #[.int .i64 i,.int .i64 s,.int .i64 q,.slice a zs.length c])∧
   w'.ownsRow w.heap.size 163 3 (.slice a zs.length c) zs.length (z0i zs)∧Below w.heap.size w w':=by
 have hb1:Below w.heap.size w ((w.alloc (.cells #[.int .i64 i,.int .i64 s,.int .i64 q,.slice (some ⟨b,off,none⟩) zs.length cap] 44)).alloc (.cells #[.int .i64 0,.int .i64 0,.int .i64 0,.slice none 0 0] 44)):=by go_grown
 have B1:=(Blk.new w 44 #[.int .i64 i,.int .i64 s,.int .i64 q,.slice (some ⟨b,off,none⟩) zs.length cap]).below (w':=(w.alloc (.cells #[.int .i64 i,.int .i64 s,.int .i64 q,.slice (some ⟨b,off,none⟩) zs.length cap] 44)).alloc (.cells #[.int .i64 0,.int .i64 0,.int .i64 0,.slice none 0 0] 44)) (by go_grown);have B2:=Blk.new (w.alloc (.cells #[.int .i64 i,.int .i64 s,.int .i64 q,.slice (some ⟨b,off,none⟩) zs.length cap] 44)) 44 #[.int .i64 0,.int .i64 0,.int .i64 0,.slice none 0 0];simp only[World.size_alloc]at B2;go_enter Tryz.func92,Tryz.ntmps92
 go_wp2_with fail
 generalize (w.alloc (.cells #[.int .i64 i,.int .i64 s,.int .i64 q,.slice (some ⟨b,off,none⟩) zs.length cap] 44)).alloc (.cells #[.int .i64 0,.int .i64 0,.int .i64 0,.slice none 0 0] 44)=W at hb1 B1 B2;have hltW:=B2.lt;refine(z6V b off cap zs W (h.below hb1) h0 hl).mono ?_;rintro e w2 ⟨a2,c2,rfl,hown,hb⟩;replace B1:=B1.below hb;replace B2:=B2.below hb;obtain⟨p0,p1,p2,p3⟩:=B1.cel4;have pf:=B1.frozen 3;obtain⟨q0,q1,q2,q3⟩:=B2.cel4;obtain⟨f0,f1,f2,f3⟩:=B2.frz4;clear B1 B2
 go_wp2
 refine bodyPost_ret (v:=.agg #[.int .i64 i,.int .i64 s,.int .i64 q,.slice a2 zs.length c2]) (by simp[results,Tryz.results92,go_sem,q0,q1,q2,q3]) rfl ⟨_,_,rfl,?_,?_⟩
 ·refine z0m (base:=W.heap.size) ?_ (by omega);repeat' (refine ownsRow_setCell_below ?_ (by dsimp only;omega) _)
  exact hown
 ·repeat' (refine Below.setCell ?_ (by dsimp only;omega) _)
  exact z0l hb1 hb
section
variable {P:Program} {ops:Array Oper} {Q:Exit→Act→World→Prop} {S:World→Prop}
theorem z7N(i:Nat)(d:Option Tmp)(v:Value)(fuel:Nat){F:Nat}{l:Array Bool}{a:Act}{w:World}(hF:F=fuel+1)(hs:Region.noSelect ops=true)
  (hd:(ops[i]?).map (·.dst)=some d) (hok:z3g ops [i] l=true) (hw:(ops[i]?).map (fun o=>Region.wanted o (yielded ops a.tmps))=some true)
  (hrun:∀u,S u→(ops[i]?).map (fun o=>(execOp a.eval o).run P u)=some (.ok (.value v) u)) (hS:S w)
  (h:wpAnyH P .any ops (NoPanic Q) S fuel (z2J [i] l) (a.put d v) w):wpAnyH P .any ops (NoPanic Q) S F l a w:=by
 subst hF
 cases ho:ops[i]? with
 |none=>rw[ho]at hd;simp at hd
 |some o=>
  rw[ho]at hd hw hrun;simp only[Option.map_some,Option.some.injEq]at hd hw hrun;subst hd;simp only[z3g,Bool.and_eq_true,Bool.and_true]at hok;exact wpAnyH_take (i:=i) (oi:=o) (v:=v) ho hs hok.1 hok.2 (fun c a w=>z5J c a _ _ w) (Or.inl ⟨hw,fun u hu=>hrun u hu⟩) hS h
theorem z1u{K:Act→World→Prop}(i:Nat)(o:Oper){a:Act}{w:World}(ho:ops[i]?=some o)(h:wpList P ops (ThenGo Q K) [o] a w):wpOp P ops (NoPanic Q) i K a w:=by
 unfold wpOp;simp only[ho];simp only[wpList]at h;split at h
 ·rename_i hw
  rw[if_pos hw];rcases h with h|⟨h1,h2⟩
  ·left;unfold Oper.wp at h⊢;revert h;generalize (execOp a.eval o).run P w=r;intro h;unfold Oper.upon at h⊢;split at h
   ·exact h
   ·exact h
   ·exact h
   ·refine Calls.mono h fun e w' he=>?_
    cases e<;>exact he
   ·exact h
   ·exact h
   ·exact h
  ·exact Or.inr ⟨h1,h2⟩
 ·rename_i hw
  rw[if_neg hw];exact h
theorem z8n{K:Act→World→Prop}(i:Nat)(d:Option Tmp)(f:Nat)(args:Array Value){a:Act}{w:World}
  (hd:(ops[i]?).map (·.dst)=some d) (hw:(ops[i]?).map (fun o=>Region.wanted o (yielded ops a.tmps))=some true)
  (hrun:(ops[i]?).map (fun o=>(execOp a.eval o).run P w)=some (.ok (.enter f args) w))
  (hc:Calls P f args w (fun e w'=>∃v,e=.returned v∧K (a.put d v) w')):wpOp P ops (NoPanic Q) i K a w:=by
 cases ho:ops[i]? with
 |none=>rw[ho]at hd;simp at hd
 |some o=>
  rw[ho]at hd hw hrun;simp only[Option.map_some,Option.some.injEq]at hd hw hrun;subst hd;unfold wpOp;simp only[ho,hw,if_true];refine .inl ?_;unfold Oper.wp;rw[hrun];simp only[Oper.upon];refine hc.mono fun e w' he=>?_
  obtain⟨v,rfl,h1⟩:=he;exact h1
theorem z8U(i j:Nat)(fuel:Nat){F:Nat}{l:Array Bool}{a:Act}{w:World}(hF:F=fuel+1)(hr:Region.ready .any ops l=[i,j])
  (hi:wpOp P ops (NoPanic Q) i (fun a' w'=>S w'∧wpAnyH P .any ops (NoPanic Q) S fuel (z2J [i] l) a' w') a w)
  (hj:wpOp P ops (NoPanic Q) j (fun a' w'=>S w'∧wpAnyH P .any ops (NoPanic Q) S fuel (z2J [j] l) a' w') a w):wpAnyH P .any ops (NoPanic Q) S F l a w:=by
 subst hF;refine wpAnyH_all hr (by simp) (fun k hk=>?_);simp only[List.mem_cons,List.not_mem_nil,or_false]at hk;rcases hk with rfl|rfl
 ·exact hi
 ·exact hj
theorem qta(i:Nat)(d:Option Tmp)(v:Value)(fuel:Nat){F:Nat}{l:Array Bool}{a:Act}{w:World}(h5:(F,Region.noSelect ops,(ops[i]?).map (·.dst),z3g ops [i] l,(ops[i]?).map (fun o=>Region.wanted o (yielded ops a.tmps)))=(fuel+1,true,some d,true,some true))
  (hrun:∀u,S u→(ops[i]?).map (fun o=>(execOp a.eval o).run P u)=some (.ok (.value v) u)) (hS:S w)
  (h:wpAnyH P .any ops (NoPanic Q) S fuel (z2J [i] l) (a.put d v) w):wpAnyH P .any ops (NoPanic Q) S F l a w:=by
 simp only[Prod.mk.injEq]at h5;exact z7N i d v fuel h5.1 h5.2.1 h5.2.2.1 h5.2.2.2.1 h5.2.2.2.2 hrun hS h
theorem opc{K:Act→World→Prop}(i:Nat)(d:Option Tmp)(f:Nat)(args:Array Value){a:Act}{w:World}
  (h3:((ops[i]?).map (·.dst),(ops[i]?).map (fun o=>Region.wanted o (yielded ops a.tmps)),(ops[i]?).map (fun o=>(execOp a.eval o).run P w))=(some d,some true,some (.ok (.enter f args) w)))
  (hc:Calls P f args w (fun e w'=>∃v,e=.returned v∧K (a.put d v) w')):wpOp P ops (NoPanic Q) i K a w:=by
 simp only[Prod.mk.injEq]at h3;exact z8n i d f args h3.1 h3.2.1 h3.2.2 hc
theorem twa(i j:Nat)(fuel:Nat){F:Nat}{l:Array Bool}{a:Act}{w:World}(h2:(F,Region.ready .any ops l)=(fuel+1,[i,j]))
  (hi:wpOp P ops (NoPanic Q) i (fun a' w'=>S w'∧wpAnyH P .any ops (NoPanic Q) S fuel (z2J [i] l) a' w') a w)
  (hj:wpOp P ops (NoPanic Q) j (fun a' w'=>S w'∧wpAnyH P .any ops (NoPanic Q) S fuel (z2J [j] l) a' w') a w):wpAnyH P .any ops (NoPanic Q) S F l a w:=by
 simp only[Prod.mk.injEq]at h2;exact z8U i j fuel h2.1 h2.2 hi hj
end
structure KeepP (p:World→Prop) where
 val:World
 isP:p val
section
variable {P:Program} {ops:Array Oper} {Q:Exit→Act→World→Prop} {S:World→Prop} {st:Nat}
def z00(P:Program)(ops:Array Oper)(Q:Exit→Act→World→Prop)(S:World→Prop)(st:Nat):Nat→Array Bool→Act→World→Prop
 |0,listed,a,w=>Region.ready .any ops listed=[]∧Q .normal a w
 |fuel+1,listed,a,w=>
  (Region.ready .any ops listed=[]→Q .normal a w)∧
  ∀i∈Region.ready .any ops listed,wpOp P ops Q i (fun a' w'=>((listed.setIfInBounds i true).getD st true=true∨S w')∧z00 P ops Q S st fuel (listed.setIfInBounds i true) a' w') a w
theorem z4n:∀ (fuel:Nat) (listed:Array Bool) (a:Act) (w:World),z00 P ops Q S st fuel listed a w→wpAny P .any ops Q fuel listed a w
 |0,_,_,_,h=>h
 |fuel+1,_,_,_,h=>⟨h.1,fun i hi=>wpOp_mono (fun a' w' h'=>z4n fuel _ a' w' h'.2) (h.2 i hi)⟩
theorem z2Y{i:Nat}{oi:Oper}{v:Value}(hi:ops[i]?=some oi)(J:∀ (j:Nat) (o:Oper) cs b,ops[j]?=some o→o.op≠.select cs b)
  (hQ:∀c a w,Q (.panic c) (a.put oi.dst v) w→Q (.panic c) a w) (N:i≠st) (Z:∀o,ops[st]?=some o→∃e∈o.after,Region.binds .any e=true∧e.on=i):
  ∀ (x:Nat) (d:Array Bool) (a:Act) (w:World),
   (∀j oj,ops[j]?=some oj→j≠i→d.getD j true=false→(∀e∈oj.after,Region.binds .any e=true→e.on≠i)→oi.apart ops oj=true)→
   i∈Region.ready .any ops d→YieldsIf P ops S oi v a→S w→d.getD st true=false→
   z00 P ops Q S st x (d.setIfInBounds i true) (a.put oi.dst v) w→z00 P ops Q S st (x+1) d a w:=by
 intro x;induction x with
 |zero=>
  intro d a w _ hr hy hS hl H;refine⟨fun h=>(by rw[h]at hr;cases hr),fun j hj=>?_⟩;by_cases y:j=i
  ·subst y;exact hy.wpOp hi hS ⟨Or.inr hS,H⟩
  ·have:=ready_mono hj y;rw[H.1]at this
   cases this
 |succ x ih=>
  intro d a w z hr hy hS hl H;refine⟨fun h=>(by rw[h]at hr;cases hr),fun j hj=>?_⟩;by_cases y:j=i
  ·subst y;exact hy.wpOp hi hS ⟨Or.inr hS,H⟩
  ·have h1:=H.2 j (ready_mono hj y);obtain⟨E,oj,C,M⟩:=mem_ready.1 hj;have I:∀e∈oj.after,Region.binds .any e=true→e.on≠i:=fun e he hb U=>by
    have h1:=M e he hb;have h0:=(mem_ready.1 hr).1;rw[U]at h1;rcases Nat.lt_or_ge i d.size with h'|h'
    ·simp[h']at h0 h1;rw[h0]at h1;cases h1
    ·simp[Array.getElem?_eq_none h']at h1
   have D:j≠st:=by
    intro e;subst e;obtain⟨e,he,hb,Y⟩:=Z oj C;exact I e he hb Y
   have h2:=wpOp_putIf C (z j oj C y E I) (fun cs b=>J i oi cs b hi) (fun cs b=>J j oj cs b C) hQ hy h1;have A:∀k ok,ops[k]?=some ok→k≠i→(d.setIfInBounds j true).getD k true=false→
     (∀e∈ok.after,Region.binds .any e=true→e.on≠i)→oi.apart ops ok=true:=fun k ok hk V T X=>by
    refine z k ok hk V ?_ X;by_cases O:j=k
    ·subst O;exact E
    ·rw[getD_set_ne true O]at T;exact T
   have W:(d.setIfInBounds j true).getD st true=false:=by rw[getD_set_ne true D];exact hl
   refine wpOp_mono (fun a' w' h3=>?_) h2;have L:S w':=by
    rcases h3.2.1 with h4|h4
    ·rw[getD_set_ne true D,getD_set_ne true N,hl]at h4
     cases h4
    ·exact h4
   refine⟨Or.inr L,ih (d.setIfInBounds j true) a' w' A (ready_mono hr (Ne.symm y)) h3.1 L W ?_⟩;rw[Array.setIfInBounds_comm _ _ y];exact h3.2.2
def PanTo(Q:Exit→Act→World→Prop)(R:List PanicEntry→World→Prop):Exit→Act→World→Prop
 | .panic c,a,w=>a.defers=[]∧R c w
 |e,a,w=>Q e a w
theorem z4G(a:Act)(d:Option Tmp)(v:Value):(a.put d v).defers=a.defers:=by cases d<;>rfl
theorem PanTo.put{R:List PanicEntry→World→Prop}:∀c (a:Act) (d:Option Tmp) (v:Value) w,PanTo Q R (.panic c) (a.put d v) w→PanTo Q R (.panic c) a w:=fun c a d v w h=>⟨(z4G a d v)▸h.1,h.2⟩
variable {R:List PanicEntry→World→Prop}
theorem PanTo.imp(hR:∀c a w,a.defers=[]→R c w→Q (.panic c) a w):∀ (e:Exit) (a:Act) (w:World),PanTo Q R e a w→Q e a w:=fun e a w h=>by
 cases e<;>first|exact h|exact hR _ _ _ h.1 h.2
theorem z1S{id:Nat}{a:Act}{w:World}(st:Nat)(hm:P.follows .mixedOrders=true)(hR:∀c a w,a.defers=[]→R c w→Q (.panic c) a w)
  (h:z00 P ops (PanTo Q R) S st ops.size (Array.replicate ops.size false) a w.drew):(Code.region id ops true).wp P Q a w:=
 Code.wp_mono (PanTo.imp hR) (wp_region_any hm (z4n _ _ _ _ h))
def z6W(ops:Array Oper)(st i:Nat):Bool:=match ops[st]? with
 |some o=>o.after.any (fun e=>Region.binds .any e && e.on==i)
 |none=>true
theorem z51{i:Nat}(h:z6W ops st i=true):∀o,ops[st]?=some o→∃e∈o.after,Region.binds .any e=true∧e.on=i:=by
 intro o ho;unfold z6W at h;rw[ho]at h;obtain⟨k,hk,_,_,hb⟩:=Array.any_iff_exists.1 h;simp only[Bool.and_eq_true,beq_iff_eq]at hb;exact⟨o.after[k],Array.getElem_mem hk,hb⟩
def z5f(ops:Array Oper)(st:Nat):List Nat→Array Bool→Bool
 |[],_=>true
 |i::r,l=>Region.free .any ops l i && (Region.ready .any ops l).contains i && (i !=st) && z6W ops st i && !(l.getD st true) && z5f ops st r (l.setIfInBounds i true)
theorem z6j(hs:Region.noSelect ops=true):
  ∀ (z:List Nat) (os:List Oper) (l:Array Bool) (a:Act) (w:World) (y:Nat),z.map (ops[·]?)=os.map some→os.all (fun o=>z2U o.op)=true→z5f ops st z l=true→S w→
   wpQuiet P ops S (fun a'=>z00 P ops (PanTo Q R) S st y (z2J z l) a' w) os a→z00 P ops (PanTo Q R) S st (y+z.length) l a w:=by
 intro z;induction z with
 |nil=>
  intro os l a w y d _ _ _ h
  cases os with
  |nil=>exact h
  |cons o os=>simp at d
 |cons i r ih=>
  intro os l a w y d A E hS h
  cases os with
  |nil=>simp at d
  |cons o os=>
   simp only[List.map_cons,List.cons.injEq]at d;simp only[List.all_cons,Bool.and_eq_true]at A;simp only[z5f,Bool.and_eq_true,bne_iff_ne,ne_eq,Bool.not_eq_true']at E;obtain⟨⟨⟨⟨⟨hf,hr⟩,D⟩,I⟩,hl⟩,C⟩:=E;simp only[wpQuiet]at h;by_cases hw:Region.wanted o (yielded ops a.tmps)=true
   ·rw[if_pos hw]at h;obtain⟨v,hv,hk⟩:=h;refine z2Y (i:=i) (oi:=o) (v:=v) d.1 (Region.noSelect_spec hs) (fun c a w h=>PanTo.put c a _ _ w h) D (z51 I) _ l a w (Region.free_spec d.1 hf) (by simpa using hr) (Or.inl ⟨hw,fun u hu=>?_⟩) hS hl (ih os _ _ w y d.2 A.2 C hS hk);have hq:=hv u hu;unfold Oper.quietAt at hq
    cases hrun:(execOp a.eval o).run P u with
    |ok n u'=>
     obtain⟨x,rfl⟩:=z3t A.1 hrun;rw[hrun]at hq;obtain⟨e1,e2⟩:=hq;rw[e1,e2]
    |halt x u'=>
     rw[hrun]at hq;exact hq.elim
   ·rw[if_neg hw]at h;have J:Region.wanted o (yielded ops a.tmps)=false:=by simpa using hw
    exact z2Y (i:=i) (oi:=o) (v:=undef) d.1 (Region.noSelect_spec hs) (fun c a w h=>PanTo.put c a _ _ w h) D (z51 I) _ l a w (Region.free_spec d.1 hf) (by simpa using hr) (Or.inr ⟨J,rfl⟩) hS hl (ih os _ _ w y d.2 A.2 C hS h)
theorem segX(rs:List (Nat × Nat))(fuel:Nat){F:Nat}{l:Array Bool}{a:Act}{w:World}(hF:F=fuel+(z48 rs).length)(hs:Region.noSelect ops=true)(hm:(z48 rs).map (ops[·]?)=(z2K ops.toList rs).map some)
  (hp:(z2K ops.toList rs).all (fun o=>z2U o.op)=true) (hok:z5f ops st (z48 rs) l=true) (hS:S w)
  (h:wpQuiet P ops S (fun a'=>z00 P ops (PanTo Q R) S st fuel (z2J (z48 rs) l) a' w) (z2K ops.toList rs) a):z00 P ops (PanTo Q R) S st F l a w:=by
 subst hF;exact z6j hs (z48 rs) _ l a w fuel hm hp hok hS h
theorem z9a(i:Nat)(d:Option Tmp)(f:Nat)(args:Array Value)(fuel:Nat){F:Nat}{l:Array Bool}{a:Act}{w:World}(hF:F=fuel+1)
  (hd:(ops[i]?).map (·.dst)=some d) (hr:Region.ready .any ops l=[i]) (hw:(ops[i]?).map (fun o=>Region.wanted o (yielded ops a.tmps))=some true)
  (hrun:(ops[i]?).map (fun o=>(execOp a.eval o).run P w)=some (.ok (.enter f args) w))
  (hdf:a.defers=[]) (hc:Calls P f args w (fun e w'=>(∃v,e=.returned v∧S w'∧z00 P ops (PanTo Q R) S st fuel (z2J [i] l) (a.put d v) w')∨∃c,e=.panicked c∧R c w')):z00 P ops (PanTo Q R) S st F l a w:=by
 subst hF
 cases ho:ops[i]? with
 |none=>rw[ho]at hd;simp at hd
 |some o=>
  rw[ho]at hd hw hrun;simp only[Option.map_some,Option.some.injEq]at hd hw hrun;subst hd;refine⟨fun h0=>(by rw[hr]at h0;cases h0),fun j hj=>?_⟩;rw[hr]at hj;simp only[List.mem_singleton]at hj;subst hj;unfold wpOp;simp only[ho,hw,if_true];refine .inl ?_;unfold Oper.wp;rw[hrun];simp only[Oper.upon];refine hc.mono fun e w' he=>?_
  rcases he with⟨v,rfl,h1,h2⟩|⟨c,rfl,h1⟩
  ·exact⟨Or.inr h1,h2⟩
  ·exact⟨hdf,h1⟩
def ThenX(Q:Exit→Act→World→Prop)(R:List PanicEntry→World→Prop)(K:Act→World→Prop):Exit→Act→World→Prop
 | .normal,a,w=>K a w
 |e,a,w=>PanTo Q R e a w
theorem ThenX.to{K:Act→World→Prop}{a:Act}{w:World}(h:K a w):ThenX Q R K .normal a w:=h
theorem oneX(i:Nat)(o:Oper)(fuel:Nat){F:Nat}{l:Array Bool}{a:Act}{w:World}(hF:F=fuel+1)(ho:ops[i]?=some o)(hr:Region.ready .any ops l=[i])
  (h:wpList P ops (ThenX Q R (fun a' w'=>((z2J [i] l).getD st true=true∨S w')∧z00 P ops (PanTo Q R) S st fuel (z2J [i] l) a' w')) [o] a w):z00 P ops (PanTo Q R) S st F l a w:=by
 subst hF;refine⟨fun h0=>(by rw[hr]at h0;cases h0),fun j hj=>?_⟩;rw[hr]at hj;simp only[List.mem_singleton]at hj;subst hj;unfold wpOp;simp only[ho];simp only[wpList]at h;split at h
 ·rename_i hw
  rw[if_pos hw];rcases h with h|⟨h1,h2⟩
  ·left;unfold Oper.wp at h⊢;revert h;generalize (execOp a.eval o).run P w=r;intro h;unfold Oper.upon at h⊢;split at h
   ·exact h
   ·exact h
   ·exact h
   ·refine Calls.mono h fun e w' he=>?_
    cases e<;>exact he
   ·exact h
   ·exact h
   ·exact h
  ·exact Or.inr ⟨h1,h2⟩
 ·rename_i hw
  rw[if_neg hw];exact h
theorem z6X{F:Nat}{l:Array Bool}{a:Act}{w:World}(hr:Region.ready .any ops l=[])(h:Q .normal a w):z00 P ops (PanTo Q R) S st F l a w:=by
 cases F with
 |zero=>exact⟨hr,h⟩
 |succ F=>exact⟨fun _=>h,by rw[hr];simp⟩
theorem sgX(rs:List (Nat × Nat))(fuel:Nat){F:Nat}{l:Array Bool}{a:Act}{w:World}(h5:(F,Region.noSelect ops,(z48 rs).map (ops[·]?),(z2K ops.toList rs).all (fun o=>z2U o.op),z5f ops st (z48 rs) l)=(fuel+(z48 rs).length,true,(z2K ops.toList rs).map some,true,true))(hS:S w)
  (h:wpQuiet P ops S (fun a'=>z00 P ops (PanTo Q R) S st fuel (z2J (z48 rs) l) a' w) (z2K ops.toList rs) a):z00 P ops (PanTo Q R) S st F l a w:=by
 simp only[Prod.mk.injEq]at h5;exact segX rs fuel h5.1 h5.2.1 h5.2.2.1 h5.2.2.2.1 h5.2.2.2.2 hS h
theorem clX(i:Nat)(d:Option Tmp)(f:Nat)(args:Array Value)(fuel:Nat){F:Nat}{l:Array Bool}{a:Act}{w:World}(h5:(F,(ops[i]?).map (·.dst),Region.ready .any ops l,(ops[i]?).map (fun o=>Region.wanted o (yielded ops a.tmps)),(ops[i]?).map (fun o=>(execOp a.eval o).run P w))=(fuel+1,some d,[i],some true,some (.ok (.enter f args) w)))
  (hdf:a.defers=[]) (hc:Calls P f args w (fun e w'=>(∃v,e=.returned v∧S w'∧z00 P ops (PanTo Q R) S st fuel (z2J [i] l) (a.put d v) w')∨∃c,e=.panicked c∧R c w')):z00 P ops (PanTo Q R) S st F l a w:=by
 simp only[Prod.mk.injEq]at h5;exact z9a i d f args fuel h5.1 h5.2.1 h5.2.2.1 h5.2.2.2.1 h5.2.2.2.2 hdf hc
theorem onX(i:Nat){o:Oper}(fuel:Nat){F:Nat}{l:Array Bool}{a:Act}{w:World}(ho:ops[i]?=some o)(h2:(F,Region.ready .any ops l)=(fuel+1,[i]))
  (h:wpList P ops (ThenX Q R (fun a' w'=>((z2J [i] l).getD st true=true∨S w')∧z00 P ops (PanTo Q R) S st fuel (z2J [i] l) a' w')) [o] a w):z00 P ops (PanTo Q R) S st F l a w:=by
 simp only[Prod.mk.injEq]at h2;exact oneX i o fuel h2.1 ho h2.2 h
end
def z9b(x:UndoD):Int:=
 if inW x.key 1 20=false∨inW x.val (-20000) 20000=false then 3 else if x.was=false∧x.val≠0 then 1 else 0
structure USP where
 d:List UndoD
 a:Option Addr
 cap:Nat
def USP.sl(p:USP):Value:=.slice p.a p.d.length p.cap
def z2M(ps:List USP):List Value:=ps.map USP.sl
def z6Y:USP:=⟨[],none,0⟩
theorem z37(ps:List USP):(z2M ps).length=ps.length:=by simp[z2M]
theorem z5M(ps:List USP)(i:Nat)(h:i<ps.length):(z2M ps)[i]?=some (ps.getD i z6Y).sl:=by simp[z2M,List.getD,h]
def UssAt(w:World)(v:Value)(ds:List (List UndoD)):Prop:=
 ∃a cap ps,v=.slice a ds.length cap∧ps.map USP.d=ds∧Lies w a (z2M ps)∧∀p∈ps,UndoRow w p.a p.d
theorem UssAt.below{w w':World}{v:Value}{ds:List (List UndoD)}(h:UssAt w v ds)(hb:Below w.heap.size w w'):UssAt w' v ds:=by
 obtain⟨a,cap,ps,e,hd,hL,hA⟩:=h;exact⟨a,cap,ps,e,hd,hL.below hb,fun p hp=>(hA p hp).below hb⟩
theorem UssAt.shape{w:World}{v:Value}{ds:List (List UndoD)}(h:UssAt w v ds):∃a cap,v=.slice a ds.length cap:=by
 obtain⟨a,cap,_,e,_⟩:=h;exact⟨a,cap,e⟩
theorem UssAt.at{w:World}{a:Option Addr}{n cap:Nat}{ds:List (List UndoD)}(h:UssAt w (.slice a n cap) ds)(i:Nat)(hi:i<ds.length):
  ∃b off aa cc,a=some ⟨b,off,none⟩∧b<w.heap.size∧w.cell? ⟨b,off+i,none⟩=some (.slice aa (ds.getD i []).length cc)∧UndoRow w aa (ds.getD i []):=by
 obtain⟨a',cap',ps,e,hd,hL,hA⟩:=h;simp only[Value.slice.injEq]at e;obtain⟨rfl,_,_⟩:=e;have hl:ps.length=ds.length:=by rw[←hd];simp
 have h1:=z5M ps i (by omega);have hp:(ps.getD i z6Y).d=ds.getD i []:=by
  rw[←hd];simp[List.getD,show i<ps.length by omega]
 have hm:ps.getD i z6Y∈ps:=by simp[List.getD,show i<ps.length by omega]
 rcases hL with h|⟨b,off,ha,hlt,hc⟩
 ·have:=z37 ps;rw[h]at this;simp at this;omega
 ·have hAA:=hA _ hm;rw[hp]at hAA;refine⟨b,off,(ps.getD i z6Y).a,(ps.getD i z6Y).cap,ha,hlt,?_,hAA⟩;rw[hc _ _ h1];simp only[USP.sl,hp]
def OwnUss(lo hi:Nat)(w:World)(v:Value)(ds:List (List UndoD)):Prop:=
 ∃g cap ps,v=.slice (some ⟨g,0,none⟩) ds.length cap∧g<hi∧ps.map USP.d=ds∧w.ownsRow lo 137 1 (.slice (some ⟨g,0,none⟩) ds.length cap) ds.length (z2M ps)∧
  ∀p∈ps,w.ownsRow lo 208 3 p.sl p.d.length (z0p p.d)∧∀k,p.sl.ownBlock=some k→k<hi∧k≠g
theorem OwnUss.row{lo hi:Nat}{w:World}{v:Value}{ds:List (List UndoD)}(h:OwnUss lo hi w v ds):UssAt w v ds:=by
 obtain⟨g,cap,ps,e,_,hd,ho,hp⟩:=h;exact⟨_,cap,ps,e,hd,Lies.own ho,fun p hm=>Lies.own (hp p hm).1⟩
theorem OwnUss.below{lo hi:Nat}{w w':World}{v:Value}{ds:List (List UndoD)}(h:OwnUss lo hi w v ds)(hb:Below w.heap.size w w'):OwnUss lo hi w' v ds:=by
 obtain⟨g,cap,ps,e,hg,hd,ho,hp⟩:=h;exact⟨g,cap,ps,e,hg,hd,z0a ho hb,fun p hm=>⟨z0a (hp p hm).1 hb,(hp p hm).2⟩⟩
theorem OwnUss.only{lo hi lo' hi':Nat}{w w':World}{v:Value}{ds:List (List UndoD)}(h:OwnUss lo hi w v ds)(ho:Only lo' hi' w w')(hh:hi'≤lo):OwnUss lo hi w' v ds:=by
 obtain⟨g,cap,ps,e,hg,hd,o,hp⟩:=h;exact⟨g,cap,ps,e,hg,hd,z1D o ho hh,fun p hm=>⟨z1D (hp p hm).1 ho hh,(hp p hm).2⟩⟩
theorem z6Z:(Tryz.prog.info? 137).map (fun i=>(i.zero,i.size,i.bytes))=some (some (.slice none 0 0),1,24):=by kernel_rfl
structure Apart3 (s1 s2 s3:Value):Prop where
 a12:s1.ownBlock=none∨s1.ownBlock≠s2.ownBlock
 a13:s1.ownBlock=none∨s1.ownBlock≠s3.ownBlock
 a23:s2.ownBlock=none∨s2.ownBlock≠s3.ownBlock
theorem z2l{s t:Value}(h:s.ownBlock=none∨s.ownBlock≠t.ownBlock):t.ownBlock=none∨t.ownBlock≠s.ownBlock:=by
 rcases h with h|h
 ·cases ht:t.ownBlock with
  |none=>exact Or.inl rfl
  |some g=>right;rw[h];simp
 ·exact Or.inr (fun e=>h e.symm)
structure OwnA (lo hi:Nat) (w:World) (s1 s2 s3:Value) (cs vs:List Int) (ys:List ItemD):Prop where
 o1:OwnS 2 1 lo hi w s1 cs.length (cs.map (Value.int .i64))
 o2:OwnS 2 1 lo hi w s2 vs.length (vs.map (Value.int .i64))
 o3:OwnS 135 2 lo hi w s3 ys.length (z0d ys)
 ap:Apart3 s1 s2 s3
structure RowA (w:World) (a1 a2 a3:Option Addr) (cs vs:List Int) (ys:List ItemD):Prop where
 r1:Row .i64 w a1 cs
 r2:Row .i64 w a2 vs
 r3:ItemRow w a3 ys
theorem OwnA.below{lo hi:Nat}{w w':World}{s1 s2 s3:Value}{cs vs:List Int}{ys:List ItemD}(h:OwnA lo hi w s1 s2 s3 cs vs ys)(hb:Below w.heap.size w w'):OwnA lo hi w' s1 s2 s3 cs vs ys:=⟨h.o1.below hb,h.o2.below hb,h.o3.below hb,h.ap⟩
theorem OwnA.only{lo hi lo' hi':Nat}{w w':World}{s1 s2 s3:Value}{cs vs:List Int}{ys:List ItemD}(h:OwnA lo hi w s1 s2 s3 cs vs ys)(ho:Only lo' hi' w w')(hh:hi'≤lo):OwnA lo hi w' s1 s2 s3 cs vs ys:=⟨h.o1.only ho hh,h.o2.only ho hh,h.o3.only ho hh,h.ap⟩
theorem OwnA.row{lo hi c1 c2 c3:Nat}{w:World}{a1 a2 a3:Option Addr}{cs vs:List Int}{ys:List ItemD}(h:OwnA lo hi w (.slice a1 cs.length c1) (.slice a2 vs.length c2) (.slice a3 ys.length c3) cs vs ys):RowA w a1 a2 a3 cs vs ys:=⟨Row.own h.o1.1,Row.own h.o2.1,Lies.own h.o3.1⟩
theorem RowA.below{w w':World}{a1 a2 a3:Option Addr}{cs vs:List Int}{ys:List ItemD}(h:RowA w a1 a2 a3 cs vs ys)(hb:Below w.heap.size w w'):RowA w' a1 a2 a3 cs vs ys:=⟨h.r1.below hb,h.r2.below hb,h.r3.below hb⟩
structure MarkA (w:World) (a1 a2 a3:Option Addr) (n1 n2 n3:Nat):Prop where
 r1:Row .i64 w a1 (z8R .i64 1 n1)
 r2:Row .i64 w a2 (z8R .i64 (1+(n1:Int)) n2)
 r3:ItemRow w a3 (z5e (1+(n1:Int)+(n2:Int)) n3)
theorem MarkA.below{w w':World}{a1 a2 a3:Option Addr}{n1 n2 n3:Nat}(h:MarkA w a1 a2 a3 n1 n2 n3)(hb:Below w.heap.size w w'):MarkA w' a1 a2 a3 n1 n2 n3:=⟨h.r1.below hb,h.r2.below hb,h.r3.below hb⟩
structure OwnU (lo hi:Nat) (w:World) (s1 s2:Value) (us:List UndoD) (ys:List ItemD):Prop where
 o1:OwnS 208 3 lo hi w s1 us.length (z0p us)
 o2:OwnS 135 2 lo hi w s2 ys.length (z0d ys)
 ap:s1.ownBlock=none∨s1.ownBlock≠s2.ownBlock
structure RowU (w:World) (a1 a2:Option Addr) (us:List UndoD) (ys:List ItemD):Prop where
 r1:UndoRow w a1 us
 r2:ItemRow w a2 ys
theorem OwnU.below{lo hi:Nat}{w w':World}{s1 s2:Value}{us:List UndoD}{ys:List ItemD}(h:OwnU lo hi w s1 s2 us ys)(hb:Below w.heap.size w w'):OwnU lo hi w' s1 s2 us ys:=⟨h.o1.below hb,h.o2.below hb,h.ap⟩
theorem OwnU.only{lo hi lo' hi':Nat}{w w':World}{s1 s2:Value}{us:List UndoD}{ys:List ItemD}(h:OwnU lo hi w s1 s2 us ys)(ho:Only lo' hi' w w')(hh:hi'≤lo):OwnU lo hi w' s1 s2 us ys:=⟨h.o1.only ho hh,h.o2.only ho hh,h.ap⟩
theorem OwnU.row{lo hi c1 c2:Nat}{w:World}{a1 a2:Option Addr}{us:List UndoD}{ys:List ItemD}(h:OwnU lo hi w (.slice a1 us.length c1) (.slice a2 ys.length c2) us ys):RowU w a1 a2 us ys:=⟨Lies.own h.o1.1,Lies.own h.o2.1⟩
theorem RowU.below{w w':World}{a1 a2:Option Addr}{us:List UndoD}{ys:List ItemD}(h:RowU w a1 a2 us ys)(hb:Below w.heap.size w w'):RowU w' a1 a2 us ys:=⟨h.r1.below hb,h.r2.below hb⟩
structure MarkU (w:World) (a1 a2:Option Addr) (n1 n2:Nat):Prop where
 r1:UndoRow w a1 (z6P 1 n1)
 r2:ItemRow w a2 (z5e (1+((n1*3:Nat):Int)) n2)
theorem MarkU.below{w w':World}{a1 a2:Option Addr}{n1 n2:Nat}(h:MarkU w a1 a2 n1 n2)(hb:Below w.heap.size w w'):MarkU w' a1 a2 n1 n2:=⟨h.r1.below hb,h.r2.below hb⟩
def rulL:List Value:=[
 .int .i64 2,.int .i64 0,.int .i64 0,.int .i64 0,.bool true,.bool false,.int .i64 0,
 .int .i64 0,.int .i64 2,.int .i64 1,.int .i64 0,.bool true,.bool false,.int .i64 1,
 .int .i64 1,.int .i64 0,.int .i64 2,.int .i64 0,.bool false,.bool false,.int .i64 0,
 .int .i64 0,.int .i64 1,.int .i64 2,.int .i64 0,.bool false,.bool false,.int .i64 1,
 .int .i64 0,.int .i64 0,.int .i64 2,.int .i64 0,.bool false,.bool true,.int .i64 0]
def Rul(w:World):Prop:=∀i v,rulL[i]?=some v→w.cell? ⟨2,i,none⟩=some v
theorem Rul.below{w w':World}(h:Rul w)(hb:Below w.heap.size w w'):Rul w':=by
 intro i v hv;have h1:=h i v hv;rw[hb.cell (p:=⟨2,i,none⟩) (World.block_lt_of_cell? w ⟨2,i,none⟩ h1)];exact h1
abbrev fl(n:Int):Nat:=floatOfInt FloatKind.f64 n
theorem four{a:Int}(h:0≤a∧a≤3):a∈[(0:Int),1,2,3]:=by
 have:a=0∨a=1∨a=2∨a=3:=by omega
 rcases this with rfl|rfl|rfl|rfl<;>simp
def ro(k:Nat):Int:=[0,2,0,1,0].getD k 0
def rd(k:Nat):Bool:=[true,true,false,false,false].getD k false
def rc(k:Nat):Bool:=[false,false,false,false,true].getD k false
abbrev v4:List Int:=[0,1,2,3]
abbrev iv(n:Int):Value:=.int .i64 n
section
variable {has:Bool} {vb:Value} {rs:List RoundE} {dec:List Int} {w:World} {b:Nat} {t:TypeId}
theorem row_get{zs:List Int}(hl:zs.length=3){j:Nat}{v:Value}(hv:(zs.map iv)[j]?=some v):j<3∧v=iv (zs.getD j 0):=by
 have hj:j<zs.length:=by have:=(List.getElem?_eq_some_iff.1 hv).1;simpa using this
 refine⟨by omega,?_⟩;rw[List.getElem?_map,List.getElem?_eq_getElem hj]at hv;simp only[Option.map_some,Option.some.injEq]at hv;rw[←hv];simp[List.getD,hj]
end
def slA:Value→Option Addr
 | .slice a _ _=>a
 |_=>none
def slK:Value→Nat
 | .slice _ _ k=>k
 |_=>0
def TxnQ.p(q:TxnQ):TxnP:=⟨q.e,slA q.va,slK q.va⟩
structure InstP (w:World) (b o:Nat) (p:InstQ):Prop where
 box:Box4 w b o (.bool p.has) p.vb p.vr p.vd
 rd:instK.rd w p
theorem InstP.below{w w':World}{b o:Nat}{p:InstQ}(h:InstP w b o p)(hb:Below w.heap.size w w'):InstP w' b o p:=⟨h.box.below hb,instK.rd_below h.rd hb⟩
theorem InstP.batch{w:World}{b o:Nat}{p:InstQ}(h:InstP w b o p):txnK.At w p.vb p.batch:=h.rd.1
theorem InstP.rounds{w:World}{b o:Nat}{p:InstQ}(h:InstP w b o p):roundK.At w p.vr p.rounds:=h.rd.2.1
theorem InstP.dec{w:World}{b o:Nat}{p:InstQ}(h:InstP w b o p):intK.At w p.vd p.dec:=h.rd.2.2
section
variable {ops:Array Oper} {rest:List Oper} {op:Oper} {a:Act} {w:World} {Q:Exit→Act→World→Prop}
theorem z0C(hw:Region.wanted op (yielded ops a.tmps)=true)(ty:TypeId)(x y:Operand)(ho:op.op=.store ty x y)
  (g:Nat) (c:Array Value) (hx:a.eval x=.pointer (some ⟨g,0,none⟩)) (hy:a.eval y=.agg c)
  (t:TypeId) (d:Array Value) (hg:w.heap[g]?=some (.cells d t (0,0))) (hi:(Tryz.prog.info? ty).map (·.size)=some c.size)
  (z:d.size=c.size) (h1:c.all (·.oneCell')=true)
  (h:wpList Tryz.prog ops Q rest (a.put op.dst undef) (w.setRow g c)):wpList Tryz.prog ops Q (op::rest) a w:=by
 simp only[wpList];rw[if_pos hw];exact Or.inl (wp_store_row ty x y ho g c hx hy t d hg hi z h1 h)
end
theorem Blk.row{w:World}{b:Nat}{t:TypeId}{old:Array Value}(h:Blk w b t old)(cs:Array Value):Blk (w.setRow b cs) b t cs:=setRow_heap w b old cs t _ h
theorem z0o{B:Nat}{a w:World}(h:Below B a w){g:Nat}(hg:B≤g)(cs:Array Value):Below B a (w.setRow g cs):=
 ⟨h.os,h.tape,h.output,by rw[setRow_size];exact h.size,fun k hk=>(setRow_other w g k cs (by omega)).trans (h.block k hk)⟩
def z1q:Act→List (Option Tmp)→List Value→Act
 |a,d::ds,v::vs=>z1q (a.put d v) ds vs
 |a,_,_=>a
section
variable {P:Program} {ops:Array Oper} {Q:Exit→Act→World→Prop}
theorem z1i{id:Nat}{a:Act}{w:World}(ds:List (Option Tmp))(R:List Value→World→Prop)
  (hreg:(Code.region id ops true).wp P (fun e a' w'=>e=.normal∧∃vs,R vs w'∧a'=z1q a ds vs) a w) (himp:∀vs w',R vs w'→Q .normal (z1q a ds vs) w'):(Code.region id ops true).wp P Q a w:=by
 refine Code.wp_mono ?_ hreg;rintro e a' w' ⟨rfl,vs,hR,rfl⟩;exact himp vs w' hR
end
def stF(a b:TxnD):Bool:=(a.id==b.id)||((a.session==b.session) && (a.seq==b.seq))
def knw(acc:List TxnD)(t:TxnD):Bool:=acc.any (fun a=>stF a t)
theorem z1F(v:Value)(ps:List TxnQ)(w:World)(h:txnK.At w v ps)(ax:∀p∈ps,0<p.acts.length)(hl:ps.length+nmL TxnQ.n ps≤1048576):
  Calls Tryz.prog 39 #[v] w fun e w'=>∃v' qs,e=.returned v'∧qs.map TxnQ.e=ps.map TxnQ.e∧txnK.Own w' v' qs∧(txnK.fp v' qs).Nodup∧(∀k∈txnK.fp v' qs,w.heap.size≤k)∧Below w.heap.size w w':=by
 obtain⟨a,cap,rfl⟩:=h.shape;obtain⟨i0,hi,aB,aC,aD⟩:=info_parts z0O;obtain⟨ai,aj⟩:=Kind.own_nil (K:=txnK) w;have X:Hid ((txnK.fp (.slice none 0 0) ([]:List TxnQ)).Nodup∧∀k∈txnK.fp (.slice none 0 0) ([]:List TxnQ),w.heap.size≤k):=by
  rw[aj];exact⟨by simp,by simp⟩
 clear aj;go_enter Tryz.func39,Tryz.ntmps39
 go_wp2
 go_loopw[3,8] (fun v j wr=>∃ (k:Nat) (qs:List TxnQ),k≤ps.length∧j=.int .i64 k∧Hid (qs.map TxnQ.e=(ps.take k).map TxnQ.e)∧txnK.Own wr v qs∧Hid ((txnK.fp v qs).Nodup∧∀k∈txnK.fp v qs,w.heap.size≤k)∧Below w.heap.size w wr) (fun _ j _=>ps.length-(intOf j).toNat)
 case atStart=>exact⟨0,[],Nat.zero_le _,rfl,(rfl:_=_),ai,X,Below.refl _ _⟩
 case round=>
  clear X ai;obtain⟨k,qs,hk,rfl,HE,hO,HN,hb⟩:=hrel;obtain⟨sa,sc,rfl⟩:=hO.shape;have ad:Hid (qs.length=k):=by
   have:=congrArg List.length HE.out;rw[List.length_map,List.length_map,List.length_take]at this;show qs.length=k;omega
  by_cases M:k<ps.length
  ·obtain⟨b,aE,rfl,aG,hc,d⟩:=(h.below hb).cell (by decide) k M;have A:∀j x,(txnK.cells ps[k])[j]?=some x→wr.cell? ⟨b,aE+k*4+j,none⟩=some x:=hc;have c0:=A 0 (.int .i64 ps[k].i) rfl;have c1:=A 1 (.int .i64 ps[k].s) rfl;have c2:=A 2 (.int .i64 ps[k].q) rfl;have c3:=A 3 (ps[k].va) rfl;have V:=z2t TxnQ.n ps k M;have D:=ax _ (List.getElem_mem M);have Z:Hid (∀p':TxnQ,p'.e=TxnQ.e ps[k]→(qs++[p']).map TxnQ.e=(ps.take (k+1)).map TxnQ.e):=fun p' ay=>by
    rw[List.take_succ_eq_append_getElem M,List.map_append,List.map_append,HE.out,List.map_singleton,List.map_singleton,ay]
   clear hc A;generalize ps[k]=p at*;obtain⟨i,s,q,va,c⟩:=p;replace d:actK.At wr va c:=d;replace V:c.length≤nmL TxnQ.n ps:=V;obtain⟨aa,ac,rfl⟩:=d.shape;dsimp only at c0 c1 c2 c3 D;obtain⟨ab,ao,au⟩:∃ab ao,aa=some ⟨ab,ao,none⟩:=by
    rcases(z0K d).2 with h0|⟨ab,ao,e,_⟩
    ·have:=z0u c;rw[h0]at this;simp at this;omega
    ·exact⟨ab,ao,e⟩
   subst au;have L:Below wr.heap.size wr (wr.alloc (.cells #[.int .i64 i,.int .i64 s,.int .i64 q,.slice (some ⟨ab,ao,none⟩) c.length ac] 44)):=by go_grown
   have ag:=z1R i s q ab ao ac c _ ((z0K d).2.below L) D (by omega);rw[Nat.add_zero]at c0;replace hO:=hO.below L;replace hb:=hb.trans (L.mono hb.size);clear HE L
   go_wp2_with fail
   clear c0 c1 c2 c3;generalize wr.alloc (.cells #[.int .i64 i,.int .i64 s,.int .i64 q,.slice (some ⟨ab,ao,none⟩) c.length ac] 44)=Y at*;have aF:w.heap.size≤Y.heap.size:=hb.size;refine ag.mono ?_;rintro e w2 ⟨a2,c2,rfl,am,I⟩;have W:=hO.lt;replace hO:=hO.below I;replace hb:=hb.trans (I.mono hb.size);obtain⟨o2,ah⟩:=z0y am;have hP:txnK.own w2 ⟨i,s,q,.slice a2 c.length c2,c⟩:=⟨o2,fun _ _=>trivial⟩
   have y:∀x∈txnK.foot ⟨i,s,q,.slice a2 c.length c2,c⟩,Y.heap.size≤x:=fun x hx=>ah x (by rw[←z0Y (.slice a2 c.length c2) c];exact hx)
   have af:(txnK.foot ⟨i,s,q,.slice a2 c.length c2,c⟩).Nodup:=by
    show(actK.fp _ _).Nodup;rw[z0Y];exact z0D _
   have z:Below w2.heap.size w2 (w2.alloc (.cells #[.int .i64 i,.int .i64 s,.int .i64 q,.slice a2 c.length c2] 44)):=by go_grown
   have T:=hO.below z;have ae:=txnK.own_out (F:=[]) hP (Out.of_below z) (fun _ _=>by simp);have J:=hb.trans (z.mono hb.size);clear ag am hO hP ah;have E:=T.1
   go_wp2_with (at_builtin;refine wpList_append_own_at _ rfl _ _ 27 rfl 0 44 i0 (.agg #[.int .i64 0,.int .i64 0,.int .i64 0,.slice none 0 0]) 4 48 Tryz.underlying27 hi aB aC aD rfl (by decide) _ qs.length (txnK.row qs) rfl E ⟨w2.heap.size,0,none⟩ 1 1 [.int .i64 i,.int .i64 s,.int .i64 q,.slice a2 c.length c2] rfl rfl ?c1 ?c2 ?c3 ?c4 ?c5 ?_)
   all_goals try(case c1=>intro j u hj;match j,hj with|0,hj=>simp at hj;subst hj;simp[Addr.add]|1,hj=>simp at hj;subst hj;simp[Addr.add]|2,hj=>simp at hj;subst hj;simp[Addr.add]|3,hj=>simp at hj;subst hj;simp[Addr.add])
   all_goals try(case c2=>intro u hu;simp at hu;rcases hu with rfl|rfl|rfl|rfl<;>rfl)
   all_goals try(case c3=>have:=ad.out;unfold maxLen;omega)
   all_goals try(case c4=>have:=ad.out;omega)
   all_goals try(case c5=>first|omega|simp)
   intro v' w5 O C al U;clear al E;rw[show w2.heap.size+1=(w2.alloc (.cells #[.int .i64 i,.int .i64 s,.int .i64 q,.slice a2 c.length c2] 44)).heap.size from(World.size_alloc _ _).symm]at U;generalize az:w2.alloc (.cells #[.int .i64 i,.int .i64 s,.int .i64 q,.slice a2 c.length c2] 44)=WA at*;clear az;have aH:Y.heap.size≤WA.heap.size:=by have:=I.size;have:=z.size;omega
   obtain⟨ar,ak,N,an⟩:=T.snoc HN.out.1 HN.out.2 ae af (fun x hx aA=>by have:=W x aA;have:=y x hx;omega) (fun x hx=>by have:=y x hx;omega) J.size O C U;have av:Below w.heap.size w w5:=Out.keep J an J.size (fun x hx=>HN.out.2 x (by simp only[Kind.fp,List.mem_append];exact Or.inl hx));have ap:Hid ((qs++[(⟨i,s,q,.slice a2 c.length c2,c⟩:TxnQ)]).map TxnQ.e=(ps.take (k+1)).map TxnQ.e):=Z.out _ rfl;have aq:Hid ((txnK.fp v' (qs++[(⟨i,s,q,.slice a2 c.length c2,c⟩:TxnQ)])).Nodup∧∀k∈txnK.fp v' (qs++[(⟨i,s,q,.slice a2 c.length c2,c⟩:TxnQ)]),w.heap.size≤k):=⟨ak,N⟩
   clear Z HN W y af ae T J O C U an ak N d hb z I V D
   go_wp2
   go_roundw
   case rel=>exact⟨k+1,_,by omega,by go_num,ap,ar,aq,av⟩
   case measure=>simp[intOf];omega
  ·have aw:k=ps.length:=by omega
   subst aw;have hE:=HE.out;rw[List.take_length]at hE;clear HE
   go_wp2
   go_ret;exact⟨_,qs,rfl,hE,hO,HN.out.1,HN.out.2,hb⟩
theorem z0r(w:World)(g:Nat)(cs:Array Value):Out [g] w (w.setRow g cs):=
 ⟨rfl,rfl,rfl,by rw[setRow_size];exact Nat.le_refl _,fun k _ hn=>setRow_other w g k cs (by simpa using hn)⟩
theorem z1e(v:Value)(ps:List TxnQ)(w:World)(h:txnK.At w v ps)(av:∀p∈ps,0<p.acts.length)(hl:ps.length+nmL TxnQ.n ps≤1048576):
  Calls Tryz.prog 45 #[v] w fun e w'=>∃v' qs,e=.returned v'∧qs.map TxnQ.e=ps.map TxnQ.e∧txnK.Own w' v' qs∧(txnK.fp v' qs).Nodup∧(∀k∈txnK.fp v' qs,w.heap.size≤k)∧Below w.heap.size w w':=by
 obtain⟨a,cap,rfl⟩:=h.shape;obtain⟨i0,hi,az,aA,aB⟩:=info_parts z0O;have ho:=World.ownsRow_lit (e:=44) (size:=4) w #[] 0 (Nat.le_refl _) (by decide) rfl;have ag:txnK.Own (w.alloc (.cells #[] 44)) (.slice (some ⟨w.heap.size,0,none⟩) 0 0) ([]:List TxnQ):=⟨(z0y ho).1,fun p hp=>by simp at hp⟩
 have ai:Below w.heap.size w (w.alloc (.cells #[] 44)):=by go_grown
 have W:Hid ((txnK.fp (.slice (some ⟨w.heap.size,0,none⟩) 0 0) ([]:List TxnQ)).Nodup∧∀k∈txnK.fp (.slice (some ⟨w.heap.size,0,none⟩) 0 0) ([]:List TxnQ),w.heap.size≤k):=by
  refine⟨?_,?_⟩
  ·simp[Kind.fp,blk,Value.ownBlock]
  ·simp[Kind.fp,blk,Value.ownBlock]
 clear ho;go_enter Tryz.func45,Tryz.ntmps45
 go_wp2
 go_loopw[3,4] (fun v j wr=>∃ (k:Nat) (qs:List TxnQ),k≤ps.length∧j=.int .i64 k∧Hid (qs.map TxnQ.e=(ps.take k).map TxnQ.e)∧txnK.Own wr v qs∧Hid ((txnK.fp v qs).Nodup∧∀k∈txnK.fp v qs,w.heap.size≤k)∧Below w.heap.size w wr) (fun _ j _=>ps.length-(intOf j).toNat)
 case atStart=>exact⟨0,[],Nat.zero_le _,rfl,(rfl:_=_),ag,W,ai⟩
 case round=>
  clear W ag ai;obtain⟨k,qs,hk,rfl,HE,hO,HN,hb⟩:=hrel;obtain⟨sa,sc,rfl⟩:=hO.shape;have Y:Hid (qs.length=k):=by
   have:=congrArg List.length HE.out;rw[List.length_map,List.length_map,List.length_take]at this;show qs.length=k;omega
  by_cases L:k<ps.length
  ·obtain⟨b,aC,rfl,aE,hc,d⟩:=(h.below hb).cell (by decide) k L;have A:∀j x,(txnK.cells ps[k])[j]?=some x→wr.cell? ⟨b,aC+k*4+j,none⟩=some x:=hc;have c0:=A 0 (.int .i64 ps[k].i) rfl;have c1:=A 1 (.int .i64 ps[k].s) rfl;have c2:=A 2 (.int .i64 ps[k].q) rfl;have c3:=A 3 (ps[k].va) rfl;have U:=z2t TxnQ.n ps k L;have D:=av _ (List.getElem_mem L);have X:Hid (∀p':TxnQ,p'.e=TxnQ.e ps[k]→(qs++[p']).map TxnQ.e=(ps.take (k+1)).map TxnQ.e):=fun p' aw=>by
    rw[List.take_succ_eq_append_getElem L,List.map_append,List.map_append,HE.out,List.map_singleton,List.map_singleton,aw]
   clear hc A;generalize ps[k]=p at*;obtain⟨i,s,q,va,c⟩:=p;replace d:actK.At wr va c:=d;replace U:c.length≤nmL TxnQ.n ps:=U;obtain⟨aa,ac,rfl⟩:=d.shape;dsimp only at c0 c1 c2 c3 D;obtain⟨ab,ao,aq⟩:∃ab ao,aa=some ⟨ab,ao,none⟩:=by
    rcases(z0K d).2 with h0|⟨ab,ao,e,_⟩
    ·have:=z0u c;rw[h0]at this;simp at this;omega
    ·exact⟨ab,ao,e⟩
   subst aq;have ae:=z4m i s q ab ao ac c _ (z0K d).2 D (by omega);rw[Nat.add_zero]at c0;clear HE
   go_wp2_with fail
   clear c0 c1 c2 c3;have aD:w.heap.size≤wr.heap.size:=hb.size;refine ae.mono ?_;rintro e w2 ⟨a2,c2,rfl,ak,I⟩;have V:=hO.lt;replace hO:=hO.below I;replace hb:=hb.trans (I.mono hb.size);obtain⟨o2,af⟩:=z0y ak;have hP:txnK.own w2 ⟨i,s,q,.slice a2 c.length c2,c⟩:=⟨o2,fun _ _=>trivial⟩
   have y:∀x∈txnK.foot ⟨i,s,q,.slice a2 c.length c2,c⟩,wr.heap.size≤x:=fun x hx=>af x (by rw[←z0Y (.slice a2 c.length c2) c];exact hx)
   have ad:(txnK.foot ⟨i,s,q,.slice a2 c.length c2,c⟩).Nodup:=by
    show(actK.fp _ _).Nodup;rw[z0Y];exact z0D _
   have z:Below w2.heap.size w2 (w2.alloc (.cells #[.int .i64 i,.int .i64 s,.int .i64 q,.slice a2 c.length c2] 44)):=by go_grown
   have O:=hO.below z;have Z:=txnK.own_out (F:=[]) hP (Out.of_below z) (fun _ _=>by simp);have J:=hb.trans (z.mono hb.size);clear ae ak hO hP af;have E:=O.1
   go_wp2_with (at_builtin;refine wpList_append_own_at _ rfl _ _ 27 rfl 0 44 i0 (.agg #[.int .i64 0,.int .i64 0,.int .i64 0,.slice none 0 0]) 4 48 Tryz.underlying27 hi az aA aB rfl (by decide) _ qs.length (txnK.row qs) rfl E ⟨w2.heap.size,0,none⟩ 1 1 [.int .i64 i,.int .i64 s,.int .i64 q,.slice a2 c.length c2] rfl rfl ?c1 ?c2 ?c3 ?c4 ?c5 ?_)
   all_goals try(case c1=>intro j u hj;match j,hj with|0,hj=>simp at hj;subst hj;simp[Addr.add]|1,hj=>simp at hj;subst hj;simp[Addr.add]|2,hj=>simp at hj;subst hj;simp[Addr.add]|3,hj=>simp at hj;subst hj;simp[Addr.add])
   all_goals try(case c2=>intro u hu;simp at hu;rcases hu with rfl|rfl|rfl|rfl<;>rfl)
   all_goals try(case c3=>have:=Y.out;unfold maxLen;omega)
   all_goals try(case c4=>have:=Y.out;omega)
   all_goals try(case c5=>first|omega|simp)
   intro v' w5 N C aj T;clear aj E;rw[show w2.heap.size+1=(w2.alloc (.cells #[.int .i64 i,.int .i64 s,.int .i64 q,.slice a2 c.length c2] 44)).heap.size from(World.size_alloc _ _).symm]at T;generalize ax:w2.alloc (.cells #[.int .i64 i,.int .i64 s,.int .i64 q,.slice a2 c.length c2] 44)=WA at*;clear ax;have aF:wr.heap.size≤WA.heap.size:=by have:=I.size;have:=z.size;omega
   obtain⟨ap,ah,M,al⟩:=O.snoc HN.out.1 HN.out.2 Z ad (fun x hx ay=>by have:=V x ay;have:=y x hx;omega) (fun x hx=>by have:=y x hx;omega) J.size N C T;have ar:Below w.heap.size w w5:=Out.keep J al J.size (fun x hx=>HN.out.2 x (by simp only[Kind.fp,List.mem_append];exact Or.inl hx));have am:Hid ((qs++[(⟨i,s,q,.slice a2 c.length c2,c⟩:TxnQ)]).map TxnQ.e=(ps.take (k+1)).map TxnQ.e):=X.out _ rfl;have an:Hid ((txnK.fp v' (qs++[(⟨i,s,q,.slice a2 c.length c2,c⟩:TxnQ)])).Nodup∧∀k∈txnK.fp v' (qs++[(⟨i,s,q,.slice a2 c.length c2,c⟩:TxnQ)]),w.heap.size≤k):=⟨ah,M⟩
   clear X HN V y ad Z O J N C T al ah M d hb z I U D
   go_wp2
   go_roundw
   case rel=>exact⟨k+1,_,by omega,by go_num,am,ap,an,ar⟩
   case measure=>simp[intOf];omega
  ·have au:k=ps.length:=by omega
   subst au;have hE:=HE.out;rw[List.take_length]at hE;clear HE
   go_wp2
   go_ret;exact⟨_,qs,rfl,hE,hO,HN.out.1,HN.out.2,hb⟩
def z0I:TxnD:=⟨0,0,0,[]⟩
theorem z03(xs:List TxnQ)(k:Nat)(hk:k<xs.length):(xs.map TxnQ.e).getD k z0I=TxnQ.e xs[k]:=by simp[List.getD,hk]
theorem z60{acc:List TxnD}{t:TxnD}(k:Nat)(hk:k<acc.length)(h:stF (acc.getD k z0I) t=true):knw acc t=true:=by
 unfold knw;rw[List.any_eq_true];exact⟨acc[k],List.getElem_mem hk,by simpa[List.getD,hk]using h⟩
theorem z8b{acc:List TxnD}{t:TxnD}(h:∀j,j<acc.length→stF (acc.getD j z0I) t=false):knw acc t=false:=by
 cases hc:knw acc t with
 |false=>rfl
 |true=>
  unfold knw at hc;rw[List.any_eq_true]at hc;obtain⟨x,hx,hs⟩:=hc;obtain⟨j,hj,rfl⟩:=List.getElem_of_mem hx;have:=h j hj;have e:acc.getD j z0I=acc[j]:=by simp[List.getD,hj]
  rw[e,hs]at this;exact absurd this (by decide)
theorem z1j(v:Value)(c:List TxnQ)(b o:Nat)(x:TxnD)(va:Value)(w:World)(h:txnK.At w v c)(hB:Box4 w b o (.int .i64 x.id) (.int .i64 x.session) (.int .i64 x.seq) va)(hl:c.length≤1048576):
  Calls Tryz.prog 103 #[v,.pointer (some ⟨b,o,none⟩)] w fun e w'=>e=.returned (.bool (knw (c.map TxnQ.e) x))∧Below w.heap.size w w':=by
 obtain⟨a,cap,rfl⟩:=h.shape;obtain⟨d0,d1,d2,d3⟩:=hB;generalize hE:knw (c.map TxnQ.e) x=E;have HE:Hid (knw (c.map TxnQ.e) x=E):=hE;clear hE;obtain⟨xi,xs,xq,xa⟩:=x;dsimp only at d0 d1 d2 d3;go_enter Tryz.func103,Tryz.ntmps103
 go_wp2
 go_loopw[5] (fun j wr=>∃k m:Nat,k≤c.length∧j=.int .i64 k∧wr=w.drewN m∧Hid (∀j,j<k→stF ((c.map TxnQ.e).getD j z0I) ⟨xi,xs,xq,xa⟩=false)) (fun j _=>c.length-(intOf j).toNat)
 case atStart=>exact⟨0,0,Nat.zero_le _,rfl,rfl,fun j hj=>absurd hj (Nat.not_lt_zero _)⟩
 case round=>
  obtain⟨k,m,hk,rfl,rfl,HA⟩:=hrel;by_cases y:k<c.length
  ·obtain⟨b',I,rfl,L,hc,D⟩:=h.cell (by decide) k y;have d:∀j x,(txnK.cells c[k])[j]?=some x→w.cell? ⟨b',I+k*4+j,none⟩=some x:=hc;have c0:=d 0 (.int .i64 c[k].i) rfl;have c1:=d 1 (.int .i64 c[k].s) rfl;have c2:=d 2 (.int .i64 c[k].q) rfl;rw[Nat.add_zero]at c0;have HY:Hid (stF (TxnQ.e c[k]) ⟨xi,xs,xq,xa⟩=true→E=true):=fun hx=>by rw[←HE.out];exact z60 k (by simpa using y) (by rw[z03 c k y];exact hx)
   have HN:Hid (stF (TxnQ.e c[k]) ⟨xi,xs,xq,xa⟩=false→∀j,j<k+1→stF ((c.map TxnQ.e).getD j z0I) ⟨xi,xs,xq,xa⟩=false):=fun hx j hj=>by
    by_cases C:j=k
    ·subst C;rw[z03 c j y];exact hx
    ·exact HA.out j (by omega)
   clear HA hc d D;generalize c[k]=p at*;obtain⟨i,s,q,M,J⟩:=p;dsimp only[TxnQ.e,stF]at c0 c1 c2 HY HN;have A:(k:Int)<(c.length:Int):=by omega
   cases h1:(i==xi)
   ·cases h2:(s==xs)
    ·have HR:=HN.out (by rw[h1,h2];rfl);have z:Hid _:=HR;clear HY HN HR
     go_wp2
     go_quiet (fail)
     go_wp2
     go_roundw
     case rel=>exact⟨k+1,_,by omega,by go_num,rfl,z.out⟩
     case measure=>simp[intOf];omega
    ·cases h3:(q==xq)
     ·have HR:=HN.out (by rw[h1,h2,h3];rfl);have z:Hid _:=HR;clear HY HN HR
      go_wp2
      go_quiet (fail)
      go_wp2
      go_roundw
      case rel=>exact⟨k+1,_,by omega,by go_num,rfl,z.out⟩
      case measure=>simp[intOf];omega
     ·have E1:Hid (E=true):=HY.out (by rw[h1,h2,h3];rfl);clear HY HN
      go_wp2
      go_quiet (fail)
      go_wp2
      go_ret;rw[E1.out];exact⟨rfl,⟨rfl,rfl,rfl,Nat.le_refl _,fun _ _=>rfl⟩⟩
   ·have E1:Hid (E=true):=HY.out (by rw[h1];rfl);clear HY HN
    go_wp2
    go_quiet (fail)
    go_wp2
    go_ret;rw[E1.out];exact⟨rfl,⟨rfl,rfl,rfl,Nat.le_refl _,fun _ _=>rfl⟩⟩
  ·have E1:Hid (E=false):=by rw[←HE.out];exact z8b (fun j hj=>HA.out j (by simp at hj;omega))
   have A:¬(k:Int)<(c.length:Int):=by omega
   clear HA HE
   go_wp2
   go_ret;rw[E1.out];exact⟨rfl,⟨rfl,rfl,rfl,Nat.le_refl _,fun _ _=>rfl⟩⟩
theorem z2N(i s q:Int)(a:Option Addr)(n c:Nat)(i' s' q':Int)(a':Option Addr)(n' c':Nat)(xs ys:List ActD)(w:World):
  Calls Tryz.prog 183 #[.agg #[.int .i64 i,.int .i64 s,.int .i64 q,.slice a n c],.agg #[.int .i64 i',.int .i64 s',.int .i64 q',.slice a' n' c']] w fun e w'=>e=.returned (.bool (stF ⟨i,s,q,xs⟩ ⟨i',s',q',ys⟩))∧Below w.heap.size w w':=by
 unfold stF;dsimp only
 cases h1:(i==i')
 ·cases h2:(s==s')
  ·go_enter Tryz.func183,Tryz.ntmps183
   go_wp2
   go_ret;exact⟨rfl,by go_grown⟩
  ·cases h3:(q==q')
   ·go_enter Tryz.func183,Tryz.ntmps183
    go_wp2
    go_ret;exact⟨rfl,by go_grown⟩
   ·go_enter Tryz.func183,Tryz.ntmps183
    go_wp2
    go_ret;exact⟨rfl,by go_grown⟩
 ·go_enter Tryz.func183,Tryz.ntmps183
  go_wp2
  go_ret;exact⟨rfl,by go_grown⟩
theorem z6k(i s q:Int)(a:Option Addr)(n c:Nat)(xs:List ActD)(x:TxnD)(bx:Nat)(a':Option Addr)(n' c':Nat)(w:World)(hX:Blk w bx 44 #[.int .i64 x.id,.int .i64 x.session,.int .i64 x.seq,.slice a' n' c']):
  Calls Tryz.prog 182 #[.agg #[.int .i64 i,.int .i64 s,.int .i64 q,.slice a n c],.pointer (some ⟨bx,0,none⟩)] w fun e w'=>e=.returned (.bool (stF ⟨i,s,q,xs⟩ x))∧Below w.heap.size w w':=by
 obtain⟨xi,xs',xq,xa⟩:=x;have hB:Below w.heap.size w (w.alloc (.cells #[.int .i64 i,.int .i64 s,.int .i64 q,.slice a n c] 44)):=by go_grown
 have hX':=hX.below hB;have hq:=fun w=>z2N i s q a n c xi xs' xq a' n' c' xs xa w
 have x0:=hX'.cell 0 _ rfl;have x1:=hX'.cell 1 _ rfl;have x2:=hX'.cell 2 _ rfl;have x3:=hX'.cell 3 _ rfl;generalize stF ⟨i,s,q,xs⟩ ⟨xi,xs',xq,xa⟩=E at*;go_enter Tryz.func182,Tryz.ntmps182
 go_wp2_with fail
 refine(hq _).mono ?_;rintro e w2 ⟨rfl,hb2⟩;replace hB:=hB.trans (hb2.mono hB.size)
 go_wp2
 go_ret;exact⟨rfl,hB⟩
theorem z38(v:Value)(ps:List TxnQ)(x:TxnD)(bx:Nat)(a':Option Addr)(n' c':Nat)(w:World)(h:txnK.At w v ps)(hX:Blk w bx 44 #[.int .i64 x.id,.int .i64 x.session,.int .i64 x.seq,.slice a' n' c'])(hl:ps.length≤1048576):
  Calls Tryz.prog 181 #[v,.func (.func 182) #[] #[.pointer (some ⟨bx,0,none⟩)]] w fun e w'=>∃r:Int,e=.returned (.int .i64 r)∧(knw (ps.map TxnQ.e) x=true→0≤r)∧(knw (ps.map TxnQ.e) x=false→r<0)∧Below w.heap.size w w':=by
 obtain⟨a,cap,rfl⟩:=h.shape;generalize hE:knw (ps.map TxnQ.e) x=E;have HE:Hid (knw (ps.map TxnQ.e) x=E):=hE;clear hE;go_enter Tryz.func181,Tryz.ntmps181
 go_wp2
 go_loopw[8] (fun j wr=>∃k:Nat,k≤ps.length∧j=.int .i64 k∧Below w.heap.size w wr∧Hid (∀j,j<k→stF ((ps.map TxnQ.e).getD j z0I) x=false)) (fun j _=>ps.length-(intOf j).toNat)
 case atStart=>exact⟨0,Nat.zero_le _,rfl,Below.refl _ _,fun j hj=>absurd hj (Nat.not_lt_zero _)⟩
 case round=>
  obtain⟨k,hk,rfl,hb,HA⟩:=hrel;by_cases y:k<ps.length
  ·obtain⟨b',L,rfl,I,hc,z⟩:=(h.below hb).cell (by decide) k y;have d:∀j x,(txnK.cells ps[k])[j]?=some x→wr.cell? ⟨b',L+k*4+j,none⟩=some x:=hc;have c0:=d 0 (.int .i64 ps[k].i) rfl;have c1:=d 1 (.int .i64 ps[k].s) rfl;have c2:=d 2 (.int .i64 ps[k].q) rfl;have c3:=d 3 (ps[k].va) rfl;rw[Nat.add_zero]at c0;have HY:Hid (stF (TxnQ.e ps[k]) x=true→E=true):=fun hx=>by rw[←HE.out];exact z60 k (by simpa using y) (by rw[z03 ps k y];exact hx)
   have HN:Hid (stF (TxnQ.e ps[k]) x=false→∀j,j<k+1→stF ((ps.map TxnQ.e).getD j z0I) x=false):=fun hx j hj=>by
    by_cases J:j=k
    ·subst J;rw[z03 ps j y];exact hx
    ·exact HA.out j (by omega)
   clear HA hc d;generalize ps[k]=p at*;obtain⟨i,s,q,M,c⟩:=p;replace z:actK.At wr M c:=z;obtain⟨aa,ac,rfl⟩:=z.shape;dsimp only[TxnQ.e]at c0 c1 c2 c3 HY HN;have hq:=z6k i s q aa c.length ac c x bx a' n' c' wr (hX.below hb);generalize stF ⟨i,s,q,c⟩ x=S at*;have C:(k:Int)<(ps.length:Int):=by omega
   go_wp2_with fail
   refine hq.mono ?_;rintro e w2 ⟨rfl,A⟩;replace hb:=hb.trans (A.mono hb.size);clear hq c0 c1 c2 c3 A z I
   cases S with
   |true=>
    have E1:Hid (E=true):=HY.out rfl;clear HY HN
    go_wp2
    go_ret;refine⟨_,rfl,fun _=>by omega,fun h0=>?_,hb⟩;rw[E1.out]at h0;exact absurd h0 (by decide)
   |false=>
    have D:Hid _:=HN.out rfl;clear HY HN
    go_wp2
    go_roundw
    case rel=>exact⟨k+1,by omega,by go_num,hb,D.out⟩
    case measure=>simp[intOf];omega
  ·have E1:Hid (E=false):=by rw[←HE.out];exact z8b (fun j hj=>HA.out j (by simp at hj;omega))
   have C:¬(k:Int)<(ps.length:Int):=by omega
   clear HA HE
   go_wp2
   go_ret;refine⟨_,rfl,fun h0=>?_,fun _=>by omega,hb⟩;rw[E1.out]at h0;exact absurd h0 (by decide)
theorem z2O(v:Value)(ps:List TxnQ)(x:TxnD)(bx:Nat)(a':Option Addr)(n' c':Nat)(w:World)(h:txnK.At w v ps)(hX:Blk w bx 44 #[.int .i64 x.id,.int .i64 x.session,.int .i64 x.seq,.slice a' n' c'])(hl:ps.length≤1048576):
  Calls Tryz.prog 129 #[v,.func (.func 182) #[] #[.pointer (some ⟨bx,0,none⟩)]] w fun e w'=>e=.returned (.bool (knw (ps.map TxnQ.e) x))∧Below w.heap.size w w':=by
 have hq:=z38 v ps x bx a' n' c' w h hX hl;obtain⟨a,cap,rfl⟩:=h.shape;generalize knw (ps.map TxnQ.e) x=E at*;go_enter Tryz.func129,Tryz.ntmps129
 go_wp2_with fail
 refine hq.mono ?_;rintro e w2 ⟨r,rfl,h1,h2,hb⟩
 cases E with
 |true=>
  have h0:0≤r:=h1 rfl;clear h1 h2
  go_wp2
  go_ret;exact⟨by simp[h0],hb⟩
 |false=>
  have h0:¬0≤r:=by have:=h2 rfl;omega
  clear h1 h2
  go_wp2
  go_ret;exact⟨by simp[h0],hb⟩
theorem z1r(v:Value)(ps:List TxnQ)(x:TxnD)(a':Option Addr)(n' c':Nat)(w:World)(h:txnK.At w v ps)(hl:ps.length≤1048576):
  Calls Tryz.prog 131 #[v,.agg #[.int .i64 x.id,.int .i64 x.session,.int .i64 x.seq,.slice a' n' c']] w fun e w'=>e=.returned (.bool (knw (ps.map TxnQ.e) x))∧Below w.heap.size w w':=by
 have hB:Below w.heap.size w (w.alloc (.cells #[.int .i64 x.id,.int .i64 x.session,.int .i64 x.seq,.slice a' n' c'] 44)):=by go_grown
 have hq:=z2O v ps x w.heap.size a' n' c' _ (h.below hB) (Blk.new w 44 #[.int .i64 x.id,.int .i64 x.session,.int .i64 x.seq,.slice a' n' c']) hl;have hmf:∀ (fn:Fn) (first cap:Array Value) (w:World),(Instr.makeFunc fn first cap).run Tryz.prog w=.ok (.func fn first cap) w:=fun _ _ _ _=>rfl
 obtain⟨a,cap,rfl⟩:=h.shape;generalize knw (ps.map TxnQ.e) x=E at*;obtain⟨xi,xs,xq,xa⟩:=x;dsimp only at hB hq⊢;go_enter Tryz.func131,Tryz.ntmps131
 go_wp2_with fail
 refine hq.mono ?_;rintro e w2 ⟨rfl,hb2⟩;replace hB:=hB.trans (hb2.mono hB.size);clear hmf
 go_wp2
 go_ret;exact⟨rfl,hB⟩
end Go.Proofs.YtciofogeiohleaaGreatDoor

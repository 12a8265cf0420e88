import Derived.Test.YtjjoahhnkpjolaaGreatDoorONAG
set_option linter.unusedVariables false
set_option linter.unusedSimpArgs false
set_option maxRecDepth 100000
set_option maxHeartbeats 4000000
namespace Go.Proofs.YtjjoahhnkpjolaaGreatDoor
open Go.RowKit Go.BigFrame
open List renaming getD->Va
open IntKind renaming i64->G
open Value renaming int->H,slice->B
open Go.Proofs.Tryz renaming prog->Sl
open Go.Proofs.Tryz
theorem q3H{n lo hi:Int}:inW n lo hi=true↔lo≤n∧n≤hi:=by simp[inW]
theorem q16{zs:List ActD}(h:z3f zs=0):∀z∈zs,actF z=0:=by
 induction zs with
 |nil=>simp
 |cons x r ih=>
  simp only[z3f]at h;split at h
  ·rename_i hx
   intro z hz;rcases List.mem_cons.1 hz with rfl|hz
   ·exact hx
   ·exact ih h z hz
  ·rename_i hx;exact absurd h hx
theorem z3R{i s q:Int}{zs:List ActD}(h:txnF i s q zs=0):(1≤i∧i≤200)∧(1≤s∧s≤9)∧(1≤q∧q≤99)∧(1≤zs.length∧zs.length≤4)∧∀z∈zs,actF z=0:=by
 unfold txnF at h;split at h
 ·simp at h
 ·rename_i h1
  split at h
  ·simp at h
  ·rename_i h2
   simp only[not_or,Bool.not_eq_false,q3H]at h1;exact⟨h1.1,h1.2.1,h1.2.2,by omega,q16 h⟩
theorem Box4.cells{w:World}{b o:Nat}{x0 x1 x2 x3:Value}(h:Box4 w b o x0 x1 x2 x3):b<w.heap.size:=World.block_lt_of_cell? w ⟨b,o,none⟩ h.c0
structure Box2 (w:World) (b:Nat) (x y:Value):Prop where
 lt:b<w.heap.size
 c0:w.cell? ⟨b,0,none⟩=some x
 c1:w.cell? ⟨b,1,none⟩=some y
 f0:w.frozen? ⟨b,0,none⟩=false
 f1:w.frozen? ⟨b,1,none⟩=false
theorem Box2.below{w w':World}{b:Nat}{x y:Value}(h:Box2 w b x y)(hb:Below w.heap.size w w'):Box2 w' b x y:=
 ⟨Nat.lt_of_lt_of_le h.lt hb.size,by rw[hb.cell (p:=⟨b,0,none⟩) h.lt];exact h.c0,by rw[hb.cell (p:=⟨b,1,none⟩) h.lt];exact h.c1,by rw[hb.frozen (p:=⟨b,0,none⟩) h.lt];exact h.f0,by rw[hb.frozen (p:=⟨b,1,none⟩) h.lt];exact h.f1⟩
def TxnD.F(d:TxnD):Int:=txnF d.id d.session d.seq d.acts
def allF:List TxnD→Int
 |[]=>0
 |d::r=>if d.F=0 then allF r else d.F
def z85(ds:List TxnD):Int:=if 60<ds.length then 2 else allF ds
def idsR(ds:List TxnD):List Int:=if z85 ds=0 then ds.map TxnD.id else []
def idsL(ds:List TxnD)(k:Nat):List Int:=(ds.take k).map TxnD.id
theorem z8m(ds:List TxnD)(k:Nat)(h:k<ds.length):idsL ds (k+1)=idsL ds k++[(ds.getD k z0m).id]:=by
 have e:ds.getD k z0m=ds[k]:=by simp[Va,h]
 rw[idsL,idsL,List.take_succ_eq_append_getElem h,e];simp only[List.map_append,List.map_cons,List.map_nil]
theorem z5y(ds:List TxnD)(k:Nat)(h:k≤ds.length):(idsL ds k).length=k:=by simp[idsL];omega
theorem q5b(ds:List TxnD):(idsR ds).length≤ds.length:=by
 unfold idsR;split<;>simp
theorem z6H(ds:List TxnD):∀k,(∀j,j<k→(ds.getD j z0m).F=0)→k<ds.length→(ds.getD k z0m).F≠0→allF ds=(ds.getD k z0m).F:=by
 induction ds with
 |nil=>intro k _ h;simp at h
 |cons x r ih=>
  intro k h0 hk hne
  cases k with
  |zero=>simp[Va]at hne⊢;simp[allF,hne]
  |succ k=>
   have hx:x.F=0:=by simpa[Va]using h0 0 (by omega)
   have:=ih k (fun j hj=>by simpa[Va]using h0 (j+1) (by omega)) (by simpa using hk) (by simpa[Va]using hne);simp only[allF,hx,if_true];rw[this];simp[Va]
theorem z8n(ds:List TxnD)(h:∀j,j<ds.length→(ds.getD j z0m).F=0):allF ds=0:=by
 induction ds with
 |nil=>rfl
 |cons x r ih=>
  have hx:x.F=0:=by simpa[Va]using h 0 (by simp)
  simp only[allF,hx,if_true];exact ih (fun j hj=>by simpa[Va]using h (j+1) (by simpa using hj))
theorem TxnsAt.box{w:World}{b off i:Nat}{z:TxnD}{aa:Option Addr}{cc:Nat}(h0:w.cell? ⟨b,off+i*4,none⟩=some (H G z.id))(h1:w.cell? ⟨b,off+i*4+1,none⟩=some (H G z.session))(h2:w.cell? ⟨b,off+i*4+2,none⟩=some (H G z.seq))
  (h3:w.cell? ⟨b,off+i*4+3,none⟩=some (B aa z.acts.length cc)):Box4 w b (off+i*4) (H G z.id) (H G z.session) (H G z.seq) (B aa z.acts.length cc):=⟨h0,h1,h2,h3⟩
theorem q17(v:Value)(ds:List TxnD)(w:World)(h:TxnsAt w v ds)(hl:ds.length≤60):
  Calls Sl 191 #[v] w fun e w'=>∃b c,e=.returned (.slice b (ds.map TxnD.id).length c)∧w'.ownsRow w.heap.size 2 1 (.slice b (ds.map TxnD.id).length c) (ds.map TxnD.id).length ((ds.map TxnD.id).map (Value.int .i64))∧Below w.heap.size w w':=by
 obtain⟨a,cap,rfl⟩:=h.shape;obtain⟨i0,hi,N,O,T⟩:=info_parts z60;go_enter func191,ntmps191
 go_wp2
 go_loopw[3,4] (fun v j wr=>∃k:Nat,k≤ds.length∧j=H G k∧wr.ownsRow w.heap.size 2 1 v (idsL ds k).length ((idsL ds k).map (Value.int .i64))∧Below w.heap.size w wr) (fun _ j _=>ds.length-(intOf j).toNat)
 case atStart=>exact⟨0,Nat.zero_le _,rfl,by first|exact World.ownsRow_lit w #[] 0 (Nat.le_refl _) (by decide) rfl|(simp[idsL];exact World.ownsRow_lit w #[] 0 (Nat.le_refl _) (by decide) rfl),by go_grown⟩
 case round=>
  obtain⟨k,hk,rfl,ho,hb⟩:=hrel;have M:=hb.size;have L:(idsL ds k).length≤60:=by rw[z5y ds k hk];omega
  obtain⟨a1,c1,rfl⟩:=z0f ho;by_cases C:k<ds.length
  ·have E:Hid (idsL ds (k+1)=idsL ds k++[(ds.getD k z0m).id]):=z8m ds k C;obtain⟨b,V,aa,cc,rfl,U,I,_⟩:=(h.below hb).at k C;generalize (ds.getD k z0m).id=z at I E;have y:Below w.heap.size wr (wr.alloc (.cells #[H G z] 2)):=(Below.refl _ _).alloc M _;have D:=ho.alloc (.cells #[H G z] 2)
   go_wp2_with (at_builtin;refine wpList_append_own _ rfl _ _ 75 rfl w.heap.size 2 i0 (H G 0) 1 8 Tryz.underlying75 hi N O T rfl (by decide) _ (idsL ds k).length ((idsL ds k).map (Value.int .i64)) rfl D ⟨wr.heap.size,0,none⟩ 1 1 [H G z] rfl rfl ?c1 ?c2 ?c3 ?c4 ?c5 ?_)
   all_goals try
    (case c1=>intro j u hj;match j,hj with|0,hj=>simp at hj;subst hj;simp[Addr.add])
   all_goals try(case c2=>first|rfl|(intro u hu;simp at hu;subst hu;rfl))
   all_goals try(case c3=>unfold maxLen;omega)
   all_goals try(case c4=>omega)
   all_goals try(case c5=>first|omega|(simp;omega))
   intro v' w2 x d _;obtain⟨a2,c2,rfl⟩:=z0f x;have A:Below w.heap.size wr w2:=y.grown d (by simp;omega) (fun j hj=>(ho.lt j hj).1);clear y d D ho;have R:Hid (w2.ownsRow w.heap.size 2 1 (B a2 ((idsL ds k).length+1) c2) ((idsL ds k).length+1) ((idsL ds k++[z]).map (Value.int .i64))∧Below w.heap.size w w2):=⟨by simpa using x,hb.trans A⟩
   clear x A
   go_wp2
   go_roundw
   case rel=>
    refine⟨k+1,by omega,by go_num,?_,R.out.2⟩;rw[E.out];simpa using R.out.1
   case measure=>simp[intOf];omega
  ·have J:k=ds.length:=by omega
   subst J;have e:idsL ds ds.length=ds.map TxnD.id:=by simp[idsL]
   rw[e]at ho;clear L
   go_wp2
   go_ret;rw[e];exact⟨_,_,rfl,ho,hb⟩
theorem q3I{ds:List TxnD}(h:z85 ds=0):ds.length≤60:=by
 unfold z85 at h;split at h
 ·simp at h
 ·omega
theorem z7f(v:Value)(ds:List TxnD)(w:World)(h:TxnsAt w v ds)(hl:ds.length+z6g ds≤1048576):
  Calls Sl 201 #[v] w fun e w'=>∃b c,e=.returned (.agg #[H G (z85 ds),.slice b (idsR ds).length c])∧
   w'.ownsRow w.heap.size 2 1 (.slice b (idsR ds).length c) (idsR ds).length ((idsR ds).map (Value.int .i64))∧Below w.heap.size w w':=by
 obtain⟨a,cap,rfl⟩:=h.shape;by_cases Y:60<ds.length
 ·have e1:z85 ds=2:=if_pos Y;have e2:idsR ds=[]:=if_neg (by rw[e1];decide);rw[e1,e2];clear e1 e2;go_enter func201,ntmps201
  go_wp2
  exact bodyPost_ret (v:=.agg #[H G 2,B none 0 0]) (by simp[results,results201,go_sem]) rfl ⟨_,_,rfl,World.ownsRow_nil _ _ _ _,by go_grown⟩
 ·have e1:z85 ds=allF ds:=if_neg Y;have O:Box2 (w.alloc (.cells #[H G 0,B none 0 0] 290)) w.heap.size (H G 0) (B none 0 0):=⟨by simp,by simp,by simp,by simp,by simp⟩
  have J:Below w.heap.size w (w.alloc (.cells #[H G 0,B none 0 0] 290)):=by go_grown
  obtain⟨i0,hi,al,am,an⟩:=info_parts z60;go_enter func201,ntmps201
  go_wp2
  generalize w.alloc (.cells #[H G 0,B none 0 0] 290)=W at O J;have aq:=O.lt;go_loopw[3,13] (fun v j wr=>∃k:Nat,k≤ds.length∧j=H G k∧wr.ownsRow W.heap.size 2 1 v (idsL ds k).length ((idsL ds k).map (Value.int .i64))∧Below W.heap.size W wr∧Hid (∀j,j<k→(ds.getD j z0m).F=0)) (fun _ j _=>ds.length-(intOf j).toNat)
  case atStart=>exact⟨0,Nat.zero_le _,rfl,World.ownsRow_nil _ _ _ _,Below.refl _ _,fun j hj=>absurd hj (Nat.not_lt_zero _)⟩
  case round=>
   obtain⟨k,hk,rfl,ho,hb,HA⟩:=hrel;have ak:=hb.size;have ai:(idsL ds k).length≤60:=by rw[z5y ds k hk];omega
   obtain⟨a1,c1,rfl⟩:=z0f ho;by_cases T:k<ds.length
   ·obtain⟨b,ar,aa,cc,rfl,ao,A,C,D,I,hA⟩:=(h.below (z0v J hb)).at k T;have U:(ds.getD k z0m).acts.length≤z6g ds:=z1x (by simp[Va,T]);have d:=fun w h=>z2C (ds.getD k z0m).id (ds.getD k z0m).session (ds.getD k z0m).seq aa cc (ds.getD k z0m).acts w h (by omega)
    change∀w h,Calls _ _ _ _ fun e w'=>e=.returned (H G ((ds.getD k z0m).F))∧_ at d
    by_cases hF:(ds.getD k z0m).F=0
    ·have HB:Hid (∀j,j<k+1→(ds.getD j z0m).F=0):=by
      intro j hj;by_cases ag:j=k
      ·subst ag;exact hF
      ·exact HA.out j (by omega)
     have af:Hid (idsL ds (k+1)=idsL ds k++[(ds.getD k z0m).id]):=z8m ds k T;rw[hF]at d;clear HA hF;generalize ds.getD k z0m=z at A C D I hA d af U;obtain⟨z0,z1,z2,zs⟩:=z;dsimp only at A C D I hA d U;have x:Below wr.heap.size wr (wr.alloc (.cells #[H G z0,H G z1,H G z2,B aa zs.length cc] 158)):=by go_grown
     have V:=Blk.new wr 158 #[H G z0,H G z1,H G z2,B aa zs.length cc]
     go_wp2_with fail
     generalize wr.alloc (.cells #[H G z0,H G z1,H G z2,B aa zs.length cc] 158)=w1 at x V;refine(d _ (hA.below x)).mono ?_;rintro e w2 ⟨rfl,y⟩;replace x:=x.trans (y.mono x.size);have p0:=(V.below y).cell 0 _ rfl;have X:=z0c ho x;have ap:=x.size;clear y V d hA A C D I;have Z:Below W.heap.size w2 (w2.alloc (.cells #[H G z0] 2)):=(Below.refl _ _).alloc (by omega) _;have ae:=X.alloc (.cells #[H G z0] 2)
     go_wp2_with (at_builtin;refine wpList_append_own _ rfl _ _ 75 rfl W.heap.size 2 i0 (H G 0) 1 8 Tryz.underlying75 hi al am an rfl (by decide) _ (idsL ds k).length ((idsL ds k).map (Value.int .i64)) rfl ae ⟨w2.heap.size,0,none⟩ 1 1 [H G z0] rfl rfl ?c1 ?c2 ?c3 ?c4 ?c5 ?_)
     all_goals try
      (case c1=>intro j u hj;match j,hj with|0,hj=>simp at hj;subst hj;simp[Addr.add])
     all_goals try(case c2=>first|rfl|(intro u hu;simp at hu;subst hu;rfl))
     all_goals try(case c3=>unfold maxLen;omega)
     all_goals try(case c4=>omega)
     all_goals try(case c5=>first|omega|(simp;omega))
     intro v' w3 N M _;obtain⟨a2,c2,rfl⟩:=z0f N;have ab:Below W.heap.size w2 w3:=Z.grown M (by simp;omega) (fun j hj=>(X.lt j hj).1);have R:Hid (w3.ownsRow W.heap.size 2 1 (B a2 ((idsL ds k).length+1) c2) ((idsL ds k).length+1) ((idsL ds k++[z0]).map (Value.int .i64))∧Below W.heap.size W w3):=⟨by simpa using N,(hb.trans (x.mono ak)).trans ab⟩
     clear Z M ae ho N ab X x p0
     go_wp2
     go_roundw
     case rel=>
      refine⟨k+1,by omega,by go_num,?_,R.out.2,HB⟩;rw[af.out];simpa using R.out.1
     case measure=>simp[intOf];omega
    ·have E:Hid (allF ds=(ds.getD k z0m).F):=z6H ds k HA.out T hF;have aj:((ds.getD k z0m).F !=0)=true:=by simpa using hF
     have E2:Hid (idsR ds=[]):=if_neg (by rw[e1,E.out];exact hF);clear HA hF;generalize (ds.getD k z0m).F=r at d E aj;generalize ds.getD k z0m=z at A C D I hA d U;obtain⟨z0,z1,z2,zs⟩:=z;dsimp only at A C D I hA d U;have x:Below wr.heap.size wr (wr.alloc (.cells #[H G z0,H G z1,H G z2,B aa zs.length cc] 158)):=by go_grown
     have E1:Hid (z85 ds=allF ds):=e1;clear e1
     go_wp2_with fail
     generalize wr.alloc (.cells #[H G z0,H G z1,H G z2,B aa zs.length cc] 158)=w1 at x;refine(d _ (hA.below x)).mono ?_;rintro e w2 ⟨rfl,y⟩;obtain⟨ad,q0,q1,g0,g1⟩:=((O.below hb).below x).below y;clear d hA A C D I ho
     go_wp2
     refine bodyPost_ret (v:=.agg #[H G r,B none 0 0]) (by simp[results,results201,go_sem,q0,q1]) rfl ?_;rw[E1.out,E.out,E2.out];refine⟨_,_,rfl,World.ownsRow_nil _ _ _ _,?_⟩;repeat' (refine Below.setCell ?_ (by dsimp only;omega) _)
     exact z0v (z0v (z0v J hb) x) y
   ·have ah:k=ds.length:=by omega
    subst ah;have E:Hid (z85 ds=0):=e1.trans (z8n ds HA.out);have E2:Hid (idsR ds=idsL ds ds.length):=by
     show _=_;rw[show idsR ds=ds.map TxnD.id from if_pos E.out];simp[idsL]
    clear HA e1;obtain⟨ad,q0,q1,g0,g1⟩:=O.below hb;generalize idsL ds ds.length=L at ho E2 ai
    go_wp2
    refine bodyPost_ret (v:=.agg #[H G 0,B a1 L.length c1]) (by simp[results,results201,go_sem,q0,q1]) rfl ?_;rw[E.out,E2.out];refine⟨_,_,rfl,?_,?_⟩
    ·refine z0r (base:=W.heap.size) ?_ J.size;repeat' (refine ownsRow_setCell_below ?_ (by dsimp only;omega) _)
     exact ho
    ·repeat' (refine Below.setCell ?_ (by dsimp only;omega) _)
     exact z0v J hb
def idxN:List Int→Int→Nat
 |[],_=>0
 |y::r,x=>if y=x then 0 else idxN r x+1
theorem q5c(L:List Int)(x:Int):∀k,(∀j,j<k→L.getD j 0≠x)→k<L.length→L.getD k 0=x→idxN L x=k:=by
 induction L with
 |nil=>intro k _ h;simp at h
 |cons y r ih=>
  intro k h0 hk he
  cases k with
  |zero=>simp[Va]at he;simp[idxN,he]
  |succ k=>
   have hy:y≠x:=by simpa[Va]using h0 0 (by omega)
   simp only[idxN,hy,if_false];rw[ih k (fun j hj=>by simpa[Va]using h0 (j+1) (by omega)) (by simpa using hk) (by simpa[Va]using he)]
theorem q18(L:List Int)(x:Int)(h:∀j,j<L.length→L.getD j 0≠x):idxN L x=L.length:=by
 induction L with
 |nil=>rfl
 |cons y r ih=>
  have hy:y≠x:=by simpa[Va]using h 0 (by simp)
  simp only[idxN,hy,if_false,List.length_cons];rw[ih (fun j hj=>by simpa[Va]using h (j+1) (by simpa using hj))]
def idxI(L:List Int)(x:Int):Int:=if idxN L x<L.length then(idxN L x:Int)else -1
theorem q02(a:Option Addr)(cap:Nat)(L:List Int)(x:Int)(w:World)(h:Row .i64 w a L)(hl:L.length≤1048576):
  Calls Sl 192 #[B a L.length cap,H G x] w fun e w'=>e=.returned (H G (idxI L x))∧w'=w:=by
 go_enter func192,ntmps192
 go_wp2
 go_loop[5] (fun j=>∃k:Nat,k≤L.length∧j=H G k∧Hid (∀j,j<k→L.getD j 0≠x)) (fun j=>L.length-(intOf j).toNat)
 case atStart=>exact⟨0,Nat.zero_le _,rfl,fun j hj=>absurd hj (Nat.not_lt_zero _)⟩
 case round=>
  obtain⟨k,hk,rfl,HA⟩:=hrel;by_cases hlt:k<L.length
  ·obtain⟨b,off,rfl,hbs,hc⟩:=h k hlt;by_cases he:L.getD k 0=x
   ·have E:Hid (idxI L x=(k:Int)):=by
     show _=_;rw[idxI,q5c L x k HA.out hlt he,if_pos hlt]
    have hee:(L.getD k 0==x)=true:=by simpa using he
    clear HA he;generalize L.getD k 0=z at hc hee
    go_wp2
    go_ret;rw[E.out];exact⟨rfl,rfl⟩
   ·have HB:Hid (∀j,j<k+1→L.getD j 0≠x):=by
     intro j hj;by_cases hjk:j=k
     ·subst hjk;exact he
     ·exact HA.out j (by omega)
    have hee:(L.getD k 0==x)=false:=by simpa using he
    clear HA he;generalize L.getD k 0=z at hc hee
    go_wp2
    go_round
    case rel=>exact⟨k+1,by omega,by go_num,HB⟩
    case measure=>simp[intOf];omega
  ·have hkl:k=L.length:=by omega
   subst hkl;have E:Hid (idxI L x=-1):=by
    show _=_;rw[idxI,q18 L x HA.out,if_neg (Nat.lt_irrefl _)]
   clear HA
   go_wp2
   go_ret;rw[E.out];exact⟨rfl,rfl⟩
theorem z2G(zs:List ActD):∀u∈z0p zs,u.oneCell'=true:=by
 intro u hu;simp only[z0p,List.mem_flatMap,ActD.cells,List.mem_cons,List.not_mem_nil,or_false]at hu;obtain⟨z,_,rfl|rfl|rfl⟩:=hu<;>rfl
theorem z2U{w:World}{b off:Nat}{xs:List Value}(h:Lies w (some ⟨b,off,none⟩) xs):∀j u,xs[j]?=some u→w.cell? ((⟨b,off,none⟩:Addr).add j)=some u:=by
 intro j u hj;rcases h with rfl|⟨b',off',e,_,hc⟩
 ·simp at hj
 ·simp only[Option.some.injEq,Addr.mk.injEq,and_true]at e;obtain⟨rfl,rfl⟩:=e;rw[Addr.add_lit];exact hc j u hj
theorem z6I(i s q:Int)(b d cap:Nat)(zs:List ActD)(w:World)(h:ActRow w (some ⟨b,d,none⟩) zs)(h0:0<zs.length)(hl:zs.length≤1048576):
  Calls Sl 120 #[.agg #[H G i,H G s,H G q,B (some ⟨b,d,none⟩) zs.length cap]] w fun e w'=>∃a c,e=.returned (.agg #[H G i,H G s,H G q,B a zs.length c])∧
   w'.ownsRow w.heap.size 210 3 (B a zs.length c) zs.length (z0p zs)∧Below w.heap.size w w':=by
 obtain⟨i0,hi,D,E,I⟩:=info_parts z5k;have hs:=z2U (Lies.below h (w':=((w.alloc (.cells #[H G i,H G s,H G q,B (some ⟨b,d,none⟩) zs.length cap] 158)).alloc (.cells #[H G 0,H G 0,H G 0,B none 0 0] 158)).alloc (.cells #[] 210)) (by go_grown));have C:=z0s zs;have ho:=World.ownsRow_lit (e:=210) (size:=3) ((w.alloc (.cells #[H G i,H G s,H G q,B (some ⟨b,d,none⟩) zs.length cap] 158)).alloc (.cells #[H G 0,H G 0,H G 0,B none 0 0] 158)) #[] 0 (Nat.le_refl _) (by decide) rfl;have z:Below w.heap.size w (((w.alloc (.cells #[H G i,H G s,H G q,B (some ⟨b,d,none⟩) zs.length cap] 158)).alloc (.cells #[H G 0,H G 0,H G 0,B none 0 0] 158)).alloc (.cells #[] 210)):=by go_grown
 have B1:=(Blk.new w 158 #[H G i,H G s,H G q,B (some ⟨b,d,none⟩) zs.length cap]).below (w':=((w.alloc (.cells #[H G i,H G s,H G q,B (some ⟨b,d,none⟩) zs.length cap] 158)).alloc (.cells #[H G 0,H G 0,H G 0,B none 0 0] 158)).alloc (.cells #[] 210)) (by go_grown);have B2:=(Blk.new (w.alloc (.cells #[H G i,H G s,H G q,B (some ⟨b,d,none⟩) zs.length cap] 158)) 158 #[H G 0,H G 0,H G 0,B none 0 0]).below (w':=((w.alloc (.cells #[H G i,H G s,H G q,B (some ⟨b,d,none⟩) zs.length cap] 158)).alloc (.cells #[H G 0,H G 0,H G 0,B none 0 0] 158)).alloc (.cells #[] 210)) (by go_grown);have HS:Hid (∀j u,(z0p zs)[j]?=some u→_):=hs;clear hs;simp only[World.size_alloc]at B2 ho;go_enter func120,ntmps120
 go_wp2_with (at_builtin;refine wpList_append_own _ rfl _ _ 156 rfl (w.heap.size+1+1) 210 i0 (.agg #[H G 0,H G 0,H G 0]) 3 24 Tryz.underlying156 hi D E I rfl (by decide) _ 0 [] rfl ho ⟨b,d,none⟩ zs.length cap (z0p zs) rfl C HS.out ?c2 ?c3 ?c4 ?c5 ?_)
 all_goals try(case c2=>exact z2G zs)
 all_goals try(case c3=>unfold maxLen;omega)
 all_goals try(case c4=>omega)
 all_goals try(case c5=>simp)
 intro v' w2 y x _;obtain⟨a2,c2,rfl⟩:=z0f y;replace B1:=B1.grown x (by simp[Value.ownBlock]<;>omega);replace B2:=B2.grown x (by simp[Value.ownBlock]<;>omega);have A:Below w.heap.size w w2:=z.grown x (by simp;omega) (fun k hk=>by simp[Value.ownBlock]at hk;omega);have J:=B2.lt;obtain⟨p0,p1,p2,p3⟩:=B1.cel4;have pf:=B1.frozen 3;obtain⟨q0,q1,q2,q3⟩:=B2.cel4;obtain⟨f0,f1,f2,f3⟩:=B2.frz4;try simp only[Nat.zero_add]at y
 clear B1 B2 x HS ho z
 go_wp2
 refine bodyPost_ret (v:=.agg #[H G i,H G s,H G q,B a2 zs.length c2]) (by simp[results,results120,go_sem,q0,q1,q2,q3]) rfl ⟨_,_,rfl,?_,?_⟩
 ·refine z0r (base:=w.heap.size+1+1) ?_ (by omega);repeat' (refine ownsRow_setCell_below ?_ (by dsimp only;omega) _)
  simpa using y
 ·repeat' (refine Below.setCell ?_ (by dsimp only;omega) _)
  exact A
theorem q19(b y cap:Nat)(zs:List ActD)(w:World)(h:ActRow w (some ⟨b,y,none⟩) zs)(h0:0<zs.length)(hl:zs.length≤1048576):
  Calls Sl 186 #[B (some ⟨b,y,none⟩) zs.length cap] w fun e w'=>∃a c,e=.returned (B a zs.length c)∧
   w'.ownsRow w.heap.size 210 3 (B a zs.length c) zs.length (z0p zs)∧Below w.heap.size w w':=by
 obtain⟨i0,hi,C,D,E⟩:=info_parts z5k;have hs:=z2U (Lies.below h (w':=w.alloc (.cells #[] 210)) (by go_grown));have A:=z0s zs;have ho:=World.ownsRow_lit (e:=210) (size:=3) w #[] 0 (Nat.le_refl _) (by decide) rfl;have HS:Hid (∀j u,(z0p zs)[j]?=some u→_):=hs;clear hs;have I:∀w,(binOp .eql 156 (B (some ⟨b,y,none⟩) zs.length cap) (B none 0 0)).run Sl w=.ok (.bool false) w:=fun w=>by first|rfl|kernel_rfl|(simp only[binOp];simp[Op.equal,Op.maxDepth,Op.equalIn,run_underlying Tryz.underlying156])
 go_enter func186,ntmps186
 go_wp2_with (at_builtin;refine wpList_append_own _ rfl _ _ 156 rfl w.heap.size 210 i0 (.agg #[H G 0,H G 0,H G 0]) 3 24 Tryz.underlying156 hi C D E rfl (by decide) _ 0 [] rfl ho ⟨b,y,none⟩ zs.length cap (z0p zs) rfl A HS.out ?c2 ?c3 ?c4 ?c5 ?_)
 all_goals try(case c2=>exact z2G zs)
 all_goals try(case c3=>unfold maxLen;omega)
 all_goals try(case c4=>omega)
 all_goals try(case c5=>simp)
 intro v' w2 x d _;obtain⟨a2,c2,rfl⟩:=z0f x;have z:Below w.heap.size w w2:=((Below.refl _ _).alloc (Nat.le_refl _) _).grown d (by simp) (fun k hk=>by simp[Value.ownBlock]at hk;omega);try simp only[Nat.zero_add]at x
 clear d HS ho
 go_wp2
 go_ret;exact⟨a2,c2,rfl,by simpa using x,z⟩
theorem z2H(i s q:Int)(b off cap:Nat)(zs:List ActD)(w:World)(h:ActRow w (some ⟨b,off,none⟩) zs)(h0:0<zs.length)(hl:zs.length≤1048576):
  Calls Sl 137 #[.agg #[H G i,H G s,H G q,B (some ⟨b,off,none⟩) zs.length cap]] w fun e w'=>∃a c,e=.returned (.agg #[H G i,H G s,H G q,B a zs.length c])∧
   w'.ownsRow w.heap.size 210 3 (B a zs.length c) zs.length (z0p zs)∧Below w.heap.size w w':=by
 have hb1:Below w.heap.size w ((w.alloc (.cells #[H G i,H G s,H G q,B (some ⟨b,off,none⟩) zs.length cap] 158)).alloc (.cells #[H G 0,H G 0,H G 0,B none 0 0] 158)):=by go_grown
 have B1:=(Blk.new w 158 #[H G i,H G s,H G q,B (some ⟨b,off,none⟩) zs.length cap]).below (w':=(w.alloc (.cells #[H G i,H G s,H G q,B (some ⟨b,off,none⟩) zs.length cap] 158)).alloc (.cells #[H G 0,H G 0,H G 0,B none 0 0] 158)) (by go_grown);have B2:=Blk.new (w.alloc (.cells #[H G i,H G s,H G q,B (some ⟨b,off,none⟩) zs.length cap] 158)) 158 #[H G 0,H G 0,H G 0,B none 0 0];simp only[World.size_alloc]at B2;go_enter func137,ntmps137
 go_wp2_with fail
 generalize (w.alloc (.cells #[H G i,H G s,H G q,B (some ⟨b,off,none⟩) zs.length cap] 158)).alloc (.cells #[H G 0,H G 0,H G 0,B none 0 0] 158)=W at hb1 B1 B2;have hltW:=B2.lt;refine(q19 b off cap zs W (h.below hb1) h0 hl).mono ?_;rintro e w2 ⟨a2,c2,rfl,hown,hb⟩;replace B1:=B1.below hb;replace B2:=B2.below hb;obtain⟨p0,p1,p2,p3⟩:=B1.cel4;have pf:=B1.frozen 3;obtain⟨q0,q1,q2,q3⟩:=B2.cel4;obtain⟨f0,f1,f2,f3⟩:=B2.frz4;clear B1 B2
 go_wp2
 refine bodyPost_ret (v:=.agg #[H G i,H G s,H G q,B a2 zs.length c2]) (by simp[results,results137,go_sem,q0,q1,q2,q3]) rfl ⟨_,_,rfl,?_,?_⟩
 ·refine z0r (base:=W.heap.size) ?_ (by omega);repeat' (refine ownsRow_setCell_below ?_ (by dsimp only;omega) _)
  exact hown
 ·repeat' (refine Below.setCell ?_ (by dsimp only;omega) _)
  exact z0v hb1 hb
section
variable {P:Program} {ops:Array Oper} {Q:Exit→Act→World→Prop} {S:World→Prop}
theorem q3J(i:Nat)(d:Option Tmp)(v:Value)(fuel:Nat){F:Nat}{l:Array Bool}{a:Act}{w:World}(hF:F=fuel+1)(hs:Region.noSelect ops=true)
  (hd:(ops[i]?).map (·.dst)=some d) (hok:z4Z ops [i] l=true) (hw:(ops[i]?).map (fun o=>Region.wanted o (yielded ops a.tmps))=some true)
  (hrun:∀u,S u→(ops[i]?).map (fun o=>(execOp a.eval o).run P u)=some (.ok (.value v) u)) (hS:S w)
  (h:wpAnyH P .any ops (NoPanic Q) S fuel (z4f [i] l) (a.put d v) w):wpAnyH P .any ops (NoPanic Q) S F l a w:=by
 subst hF
 cases ho:ops[i]? with
 |none=>rw[ho]at hd;simp at hd
 |some o=>
  rw[ho]at hd hw hrun;simp only[Option.map_some,Option.some.injEq]at hd hw hrun;subst hd;simp only[z4Z,Bool.and_eq_true,Bool.and_true]at hok;exact wpAnyH_take (i:=i) (oi:=o) (v:=v) ho hs hok.1 hok.2 (fun c a w=>z88 c a _ _ w) (Or.inl ⟨hw,fun u hu=>hrun u hu⟩) hS h
theorem z1P{K:Act→World→Prop}(i:Nat)(o:Oper){a:Act}{w:World}(ho:ops[i]?=some o)(h:wpList P ops (ThenGo Q K) [o] a w):wpOp P ops (NoPanic Q) i K a w:=by
 unfold wpOp;simp only[ho];simp only[wpList]at h;split at h
 ·rename_i hw
  rw[if_pos hw];rcases h with h|⟨h1,h2⟩
  ·left;unfold Oper.wp at h⊢;revert h;generalize (execOp a.eval o).run P w=r;intro h;unfold Oper.upon at h⊢;split at h
   ·exact h
   ·exact h
   ·exact h
   ·refine Calls.mono h fun e w' he=>?_
    cases e<;>exact he
   ·exact h
   ·exact h
   ·exact h
  ·exact Or.inr ⟨h1,h2⟩
 ·rename_i hw
  rw[if_neg hw];exact h
theorem q5d{K:Act→World→Prop}(i:Nat)(d:Option Tmp)(f:Nat)(args:Array Value){a:Act}{w:World}
  (hd:(ops[i]?).map (·.dst)=some d) (hw:(ops[i]?).map (fun o=>Region.wanted o (yielded ops a.tmps))=some true)
  (hrun:(ops[i]?).map (fun o=>(execOp a.eval o).run P w)=some (.ok (.enter f args) w))
  (hc:Calls P f args w (fun e w'=>∃v,e=.returned v∧K (a.put d v) w')):wpOp P ops (NoPanic Q) i K a w:=by
 cases ho:ops[i]? with
 |none=>rw[ho]at hd;simp at hd
 |some o=>
  rw[ho]at hd hw hrun;simp only[Option.map_some,Option.some.injEq]at hd hw hrun;subst hd;unfold wpOp;simp only[ho,hw,if_true];refine .inl ?_;unfold Oper.wp;rw[hrun];simp only[Oper.upon];refine hc.mono fun e w' he=>?_
  obtain⟨v,rfl,h1⟩:=he;exact h1
theorem q53(i j:Nat)(fuel:Nat){F:Nat}{l:Array Bool}{a:Act}{w:World}(hF:F=fuel+1)(hr:Region.ready .any ops l=[i,j])
  (hi:wpOp P ops (NoPanic Q) i (fun a' w'=>S w'∧wpAnyH P .any ops (NoPanic Q) S fuel (z4f [i] l) a' w') a w)
  (hj:wpOp P ops (NoPanic Q) j (fun a' w'=>S w'∧wpAnyH P .any ops (NoPanic Q) S fuel (z4f [j] l) a' w') a w):wpAnyH P .any ops (NoPanic Q) S F l a w:=by
 subst hF;refine wpAnyH_all hr (by simp) (fun k hk=>?_);simp only[List.mem_cons,List.not_mem_nil,or_false]at hk;rcases hk with rfl|rfl
 ·exact hi
 ·exact hj
theorem qta(i:Nat)(d:Option Tmp)(v:Value)(fuel:Nat){F:Nat}{l:Array Bool}{a:Act}{w:World}(h5:(F,Region.noSelect ops,(ops[i]?).map (·.dst),z4Z ops [i] l,(ops[i]?).map (fun o=>Region.wanted o (yielded ops a.tmps)))=(fuel+1,true,some d,true,some true))
  (hrun:∀u,S u→(ops[i]?).map (fun o=>(execOp a.eval o).run P u)=some (.ok (.value v) u)) (hS:S w)
  (h:wpAnyH P .any ops (NoPanic Q) S fuel (z4f [i] l) (a.put d v) w):wpAnyH P .any ops (NoPanic Q) S F l a w:=by
 simp only[Prod.mk.injEq]at h5;exact q3J i d v fuel h5.1 h5.2.1 h5.2.2.1 h5.2.2.2.1 h5.2.2.2.2 hrun hS h
theorem opc{K:Act→World→Prop}(i:Nat)(d:Option Tmp)(f:Nat)(args:Array Value){a:Act}{w:World}
  (h3:((ops[i]?).map (·.dst),(ops[i]?).map (fun o=>Region.wanted o (yielded ops a.tmps)),(ops[i]?).map (fun o=>(execOp a.eval o).run P w))=(some d,some true,some (.ok (.enter f args) w)))
  (hc:Calls P f args w (fun e w'=>∃v,e=.returned v∧K (a.put d v) w')):wpOp P ops (NoPanic Q) i K a w:=by
 simp only[Prod.mk.injEq]at h3;exact q5d i d f args h3.1 h3.2.1 h3.2.2 hc
theorem twa(i j:Nat)(fuel:Nat){F:Nat}{l:Array Bool}{a:Act}{w:World}(h2:(F,Region.ready .any ops l)=(fuel+1,[i,j]))
  (hi:wpOp P ops (NoPanic Q) i (fun a' w'=>S w'∧wpAnyH P .any ops (NoPanic Q) S fuel (z4f [i] l) a' w') a w)
  (hj:wpOp P ops (NoPanic Q) j (fun a' w'=>S w'∧wpAnyH P .any ops (NoPanic Q) S fuel (z4f [j] l) a' w') a w):wpAnyH P .any ops (NoPanic Q) S F l a w:=by
 simp only[Prod.mk.injEq]at h2;exact q53 i j fuel h2.1 h2.2 hi hj
end
def batF(ds:List TxnD):Int:=if ds.length<1∨4<ds.length then 2 else if allF ds=0 then(if(ds.map TxnD.id).Nodup then 0 else 6)else allF ds
def z0R:List RoundE→Int
 |[]=>0
 |r::rs=>if vf r.rep 1=0 then(if vf r.pro 2=0 then z0R rs else vf r.pro 2)else vf r.rep 1
def shpF(x:InstE):Int:=
 if x.has=false∧0<x.batch.length then 1 else
 if x.has=true∧batF x.batch≠0 then batF x.batch else
 if x.rounds.length<1∨4<x.rounds.length then 2 else
 if z0R x.rounds=0 then vf x.dec 1 else z0R x.rounds
def z0I:RoundE:=⟨[],[]⟩
def repA(rs:List RoundE)(r n:Nat):Int:=(rs.getD r z0I).rep.getD n 0
def proA(rs:List RoundE)(r n:Nat):Int:=(rs.getD r z0I).pro.getD n 0
def proR(rs:List RoundE)(r n:Nat):Bool:=(proA rs r n==3)||((repA rs r n !=3) && mayP (rs.getD r z0I).rep (proA rs r n))
def q3w(rs:List RoundE)(r n:Nat):Bool:=(proA rs (r-1) n !=3) && mayR (rs.getD (r-1) z0I).pro (repA rs r n)
def repI(has:Bool)(rs:List RoundE)(r n:Nat):Bool:=if repA rs r n=1∧has=false then false else if repA rs r n=3∨r=0 then true else q3w rs r n
def sayM(has:Bool)(rs:List RoundE)(r n:Nat):Bool:=proR rs r n && (if r=0∨repA rs r n=3 then true else q3w rs r n && (has||(repA rs r n==0)||decide (0<cnt 7 (rs.getD (r-1) z0I).pro 1)))
def agr(rs:List RoundE)(v:Int):Bool:=rs.any (fun r=>decide (2≤cnt 7 r.pro v))
def endR(rs:List RoundE)(v:Int):Bool:=(v==3)||agr rs v
def q1K(has:Bool)(rs:List RoundE)(r:Nat):Bool:=(repI has rs r 0 && proR rs r 0) && (repI has rs r 1 && proR rs r 1) && (repI has rs r 2 && proR rs r 2)
def q0b(has:Bool)(rs:List RoundE)(r:Nat):Bool:=sayM has rs r 0 && sayM has rs r 1 && sayM has rs r 2
def z6f(rs:List RoundE)(dec:List Int):Bool:=endR rs (dec.getD 0 0) && endR rs (dec.getD 1 0) && endR rs (dec.getD 2 0)
def q5Q(x:InstE):Bool:=(List.range x.rounds.length).all (q1K x.has x.rounds) && z6f x.rounds x.dec
def q6y(x:InstE):Bool:=(x.has|| !decide (0<cnt 7 (x.rounds.getD 0 z0I).rep 1)) && (List.range x.rounds.length).all (q0b x.has x.rounds) && z6f x.rounds x.dec
def insF(x:InstE):Int:=if shpF x=0 then(if q5Q x then 0 else 10)else shpF x
theorem q6U(zs:List Int)(v:Int):cnt 7 zs v=q1J (zs.getD 0 0==v) (zs.getD 1 0==v) (zs.getD 2 0==v):=by
 unfold cnt;rw[bit7.1,bit7.2.1,bit7.2.2];simp only[Bool.true_and]
theorem q3K(p q r:Bool):q4w (q4O p q r)=q1J p q r:=by cases p<;>cases q<;>cases r<;>decide+kernel
theorem q5e(zs:List Int)(v:Int):q4w (vot zs v)=cnt 7 zs v:=by
 rw[q6U];exact q3K _ _ _
theorem q3L(p q r:Bool):(0<q1J p q r)↔(p=true∨q=true∨r=true):=by cases p<;>cases q<;>cases r<;>decide
theorem z7g(zs:List Int)(v:Int):(0<cnt 7 zs v)↔∃n,n<3∧zs.getD n 0=v:=by
 rw[q6U,q3L];simp only[beq_iff_eq];constructor
 ·rintro(h|h|h)
  ·exact⟨0,by omega,h⟩
  ·exact⟨1,by omega,h⟩
  ·exact⟨2,by omega,h⟩
 ·rintro⟨n,hn,h⟩;have:n=0∨n=1∨n=2:=by omega
  rcases this with rfl|rfl|rfl
  ·exact Or.inl h
  ·exact Or.inr (Or.inl h)
  ·exact Or.inr (Or.inr h)
theorem q3M:∀x∈v4,∀y∈v4,∀z∈v4,mayP [x,y,z] 1=true→x=1∨y=1∨z=1:=by decide+kernel
theorem q2a{zs:List Int}(h:mayP zs 1=true):∃n,n<3∧zs.getD n 0=1:=by
 by_cases h0:vf zs 1=0
 ·obtain⟨x,hx,y,hy,z,hz,rfl⟩:=q3G (Or.inl rfl) h0;rcases q3M x hx y hy z hz h with h|h|h
  ·exact⟨0,by omega,h⟩
  ·exact⟨1,by omega,h⟩
  ·exact⟨2,by omega,h⟩
 ·have:mayP zs 1=false:=q0a _ (fun k=>by
   have hc:(pfC zs k==0)=false:=by
    rw[beq_eq_false_iff_ne];intro e;exact h0 (q5a e).1
   simp only [pB,hc,Bool.false_and]) 8
  rw[this]at h;exact absurd h (by decide)
theorem z1Z{rs:List RoundE}(h:z0R rs=0)(r:Nat)(hr:r<rs.length):vf (rs.getD r z0I).rep 1=0∧vf (rs.getD r z0I).pro 2=0:=by
 induction rs generalizing r with
 |nil=>simp at hr
 |cons q t ih=>
  unfold z0R at h;by_cases h1:vf q.rep 1=0
  ·rw[if_pos h1]at h;by_cases h2:vf q.pro 2=0
   ·rw[if_pos h2]at h
    cases r with
    |zero=>exact⟨h1,h2⟩
    |succ r=>exact ih h r (by simpa using hr)
   ·rw[if_neg h2]at h;exact absurd h h2
  ·rw[if_neg h1]at h;exact absurd h h1
theorem q5f{zs:List Int}{most:Int}(h:vf zs most=0)(n:Nat)(hn:n<3):vOk most (zs.getD n 0)=true:=by
 have hl:=z07 h;unfold vf at h;rw[if_pos hl]at h;have ha:zs.all (vOk most)=true:=by
  by_cases hx:zs.all (vOk most)=true
  ·exact hx
  ·rw[if_neg hx]at h;simp at h
 have hg:zs.getD n 0=zs[n]:=by simp[Va,show n<zs.length by omega]
 rw[hg];exact List.all_eq_true.1 ha _ (List.getElem_mem _)
theorem vOk1{x:Int}(h:vOk 1 x=true):x=0∨x=1∨x=3:=by
 unfold vOk inB at h;rw[Bool.or_eq_true,decide_eq_true_eq,beq_iff_eq]at h;omega
theorem z7h(has:Bool)(rs:List RoundE)(r:Nat):q1K has rs r=true↔∀n,n<3→repI has rs r n=true∧proR rs r n=true:=by
 unfold q1K;simp only[Bool.and_eq_true];constructor
 ·rintro⟨⟨h0,h1⟩,h2⟩ n hn;have:n=0∨n=1∨n=2:=by omega
  rcases this with rfl|rfl|rfl
  ·exact h0
  ·exact h1
  ·exact h2
 ·intro h;exact⟨⟨h 0 (by omega),h 1 (by omega)⟩,h 2 (by omega)⟩
theorem z5f(has:Bool)(rs:List RoundE)(r:Nat):q0b has rs r=true↔∀n,n<3→sayM has rs r n=true:=by
 unfold q0b;simp only[Bool.and_eq_true];constructor
 ·rintro⟨⟨h0,h1⟩,h2⟩ n hn;have:n=0∨n=1∨n=2:=by omega
  rcases this with rfl|rfl|rfl
  ·exact h0
  ·exact h1
  ·exact h2
 ·intro h;exact⟨⟨h 0 (by omega),h 1 (by omega)⟩,h 2 (by omega)⟩
theorem q54{rs:List RoundE}(h0:¬0<cnt 7 (rs.getD 0 z0I).rep 1)(hM:∀r,r<rs.length→∀n,n<3→sayM false rs r n=true):∀r,r<rs.length→∀n,n<3→repA rs r n≠1:=by
 intro r;induction r with
 |zero=>
  intro _ n hn e;exact h0 ((z7g _ _).2 ⟨n,hn,e⟩)
 |succ r ih=>
  intro hr n hn e;have h:=hM (r+1) hr n hn;unfold sayM at h;rw[Bool.and_eq_true]at h;have h2:=h.2;rw[if_neg (by rw[e];omega),Bool.and_eq_true]at h2;have h3:=h2.2;rw[e]at h3;simp only[Bool.false_or,Nat.add_sub_cancel]at h3;have h4:0<cnt 7 (rs.getD r z0I).pro 1:=by simpa using h3
  obtain⟨m,hm,hp⟩:=(z7g _ _).1 h4;have h5:=hM r (by omega) m hm;unfold sayM at h5;rw[Bool.and_eq_true]at h5;have h6:=h5.1;unfold proR at h6;have hp':proA rs r m=1:=hp;rw[hp']at h6;simp only[Bool.or_eq_true,Bool.and_eq_true]at h6;rcases h6 with h6|h6
  ·exact absurd h6 (by decide)
  ·obtain⟨k,hk,hk1⟩:=q2a h6.2;exact ih (by omega) k hk hk1
theorem q3N{x:InstE}(hr:z0R x.rounds=0)(hl:0<x.rounds.length):q6y x=q5Q x:=by
 unfold q6y q5Q;rw[Bool.eq_iff_iff];simp only[Bool.and_eq_true,List.all_eq_true,List.mem_range,z7h,z5f]
 cases hh:x.has with
 |true=>
  simp only[Bool.true_or,true_and];refine and_congr_left (fun _=>?_);refine forall_congr' (fun r=>forall_congr' (fun hr'=>forall_congr' (fun n=>forall_congr' (fun hn=>?_))));unfold sayM repI;rw[if_neg (show¬(repA x.rounds r n=1∧true=false) by simp)];simp only[Bool.true_or,Bool.and_true,Bool.and_eq_true];by_cases hc:repA x.rounds r n=3∨r=0
  ·rw[if_pos hc,if_pos hc.symm];exact and_comm
  ·rw[if_neg hc,if_neg (fun e=>hc e.symm)];exact and_comm
 |false=>
  simp only[Bool.false_or];constructor
  ·rintro⟨⟨h0,hM⟩,hE⟩;have h0':¬0<cnt 7 (x.rounds.getD 0 z0I).rep 1:=by simpa using h0
   have hno:=q54 h0' hM;refine⟨fun r hr' n hn=>?_,hE⟩;have h:=hM r hr' n hn;unfold sayM at h;rw[Bool.and_eq_true]at h;refine⟨?_,h.1⟩;unfold repI;rw[if_neg (fun e=>hno r hr' n hn e.1)];have h2:=h.2;by_cases hc:repA x.rounds r n=3∨r=0
   ·rw[if_pos hc]
   ·rw[if_neg hc];rw[if_neg (fun e=>hc e.symm),Bool.and_eq_true]at h2;exact h2.1
  ·rintro⟨hI,hE⟩;have hno:∀r,r<x.rounds.length→∀n,n<3→repA x.rounds r n≠1:=by
    intro r hr' n hn e;have h:=(hI r hr' n hn).1;unfold repI at h;rw[if_pos ⟨e,rfl⟩]at h;exact absurd h (by decide)
   refine⟨⟨?_,fun r hr' n hn=>?_⟩,hE⟩
   ·have:¬0<cnt 7 (x.rounds.getD 0 z0I).rep 1:=by
     intro h;obtain⟨n,hn,e⟩:=(z7g _ _).1 h;exact hno 0 hl n hn e
    simpa using this
   ·obtain⟨h1,h2⟩:=hI r hr' n hn;unfold sayM;rw[Bool.and_eq_true];refine⟨h2,?_⟩;unfold repI at h1;rw[if_neg (fun e=>hno r hr' n hn e.1)]at h1;by_cases hc:repA x.rounds r n=3∨r=0
    ·rw[if_pos hc.symm]
    ·rw[if_neg hc]at h1;rw[if_neg (fun e=>hc e.symm),Bool.and_eq_true];refine⟨h1,?_⟩;have hv:=vOk1 (q5f (z1Z hr r hr').1 n hn);have h0:repA x.rounds r n=0:=by
      rcases hv with h|h|h
      ·exact h
      ·exact absurd h (hno r hr' n hn)
      ·exact absurd (Or.inl h) hc
     rw[h0];simp
def slA:Value→Option Addr
 | B a _ _=>a
 |_=>none
def slK:Value→Nat
 | B _ _ k=>k
 |_=>0
def TxnQ.p(q:TxnQ):TxnP:=⟨q.e,slA q.va,slK q.va⟩
theorem TxnQ.p_cells{w:World}{q:TxnQ}(h:actK.At w q.va q.acts):q.p.cells=txnK.cells q:=by
 obtain⟨a,c,e⟩:=h.shape;show [_,_,_,_]=[_,_,_,_]
 simp only[TxnP.sl,TxnQ.p,TxnQ.e,e,slA,slK]
theorem z8o{w:World}{v:Value}{ps:List TxnQ}(h:txnK.At w v ps):TxnsAt w v (ps.map TxnQ.e):=by
 obtain⟨a,cap,e,hL,hr⟩:=h;refine⟨a,cap,ps.map TxnQ.p,by rw[List.length_map];exact e,by simp only[List.map_map];rfl,?_,?_⟩
 ·have e2:z0Y (ps.map TxnQ.p)=txnK.row ps:=by
   clear hL e;induction ps with
   |nil=>rfl
   |cons q r ih=>
    have h1:q.p.cells=txnK.cells q:=TxnQ.p_cells (hr q (by simp));have h2:=ih (fun p hp=>hr p (List.mem_cons_of_mem _ hp));show q.p.cells++z0Y (r.map TxnQ.p)=txnK.cells q++txnK.row r;rw[h1,h2]
  rw[e2];exact hL
 ·intro p hp;obtain⟨q,hq,rfl⟩:=List.mem_map.1 hp;have h1:actK.At w q.va q.acts:=hr q hq;obtain⟨a',c',e',hl',_⟩:=h1;show ActRow w (slA q.va) q.acts;rw[e'];exact hl'
theorem q2b(ps:List TxnQ):z6g (ps.map TxnQ.e)=nmL TxnQ.n ps:=by
 simp only[z6g,nmL,List.map_map];rfl
theorem q2c(L:List Int)(x:Int):idxN L x<L.length↔x∈L:=by
 induction L with
 |nil=>simp[idxN]
 |cons y r ih=>
  by_cases h:y=x
  ·simp[idxN,h]
  ·have:¬x=y:=fun e=>h e.symm
   simp[idxN,h,this,ih]
theorem q5g{L:List Int}{x:Int}(h:x∈L):0≤idxI L x:=by
 unfold idxI;rw[if_pos ((q2c L x).2 h)];omega
theorem q3O{L:List Int}{x:Int}(h:x∉L):idxI L x=-1:=by
 unfold idxI;rw[if_neg (fun e=>h ((q2c L x).1 e))]
theorem q03{L:List Int}{k:Nat}(h:(L.take k).Nodup)(hk:k<L.length)(hx:L.getD k 0∉L.take k):(L.take (k+1)).Nodup:=by
 have e:L.getD k 0=L[k]:=by simp[Va,hk]
 rw[e]at hx;rw[List.take_succ_eq_append_getElem hk,List.nodup_append];refine⟨h,by simp,fun a ha b hb e=>?_⟩;simp only[List.mem_singleton]at hb;subst hb e;exact hx ha
theorem q2d{L:List Int}{k:Nat}(hk:k<L.length)(hx:L.getD k 0∈L.take k):¬L.Nodup:=by
 intro h;have e:L.getD k 0=L[k]:=by simp[Va,hk]
 rw[e]at hx;have h2:(L.take (k+1)).Nodup:=List.Sublist.nodup (List.take_sublist _ _) h;rw[List.take_succ_eq_append_getElem hk,List.nodup_append]at h2;exact h2.2.2 _ hx _ (by simp) rfl
theorem Row.take6{k:IntKind}{w:World}{a:Option Addr}{zs:List Int}(h:Row k w a zs)(j:Nat):Row k w a (zs.take j):=by
 intro i hi;have hi2:i<j∧i<zs.length:=by rw[List.length_take]at hi;omega
 obtain⟨b,off,ha,hlt,hc⟩:=h i hi2.2;refine⟨b,off,ha,hlt,?_⟩;rw[hc];simp[Va,List.getElem?_take,hi2.1]
theorem q0c{w:World}{base e s n c:Nat}{a:Option Addr}{xs:List Value}(h:w.ownsRow base e s (B a n c) n xs):n≤c:=by
 rcases h.2 with⟨he,hn⟩|⟨g,cap,cur,he,_,_,hc,_⟩
 ·omega
 ·simp only[Value.slice.injEq,true_and]at he;omega
theorem q6F(b off n c k:Nat)(hk:k≤c)(w:World):(Instr.sliceAt 75 (B (some ⟨b,off,none⟩) n c) none (some (H G (k:Int))) none).run Sl w=.ok (B (some ⟨b,off,none⟩) k c) w:=by
 have hel:Sl.elem 75=2:=by kernel_rfl
 have hun:Sl.underlying 75=some (.slice (Sl.elem 75)):=by kernel_rfl
 have hsz:(sizeOf (Sl.elem 75)).run Sl w=.ok 1 w:=by rw[hel];kernel_rfl
 rw[run_sliceAt_slice (h:=hun),run_slice_h (ht:=hun) (kh:=.i64) (h:=(k:Int)) (h0:=by omega) (h2:=by omega),hsz];simp only[Result.andThen,sliced,Int.toNat_natCast];split
 ·rename_i h
  simp
 ·simp only[Option.map_some,Addr.add_lit,Nat.zero_mul,Nat.add_zero,Nat.sub_zero]
theorem z3S{ds:List TxnD}(h:ds.length<1∨4<ds.length):batF ds=2:=if_pos h
theorem q0d{ds:List TxnD}(h:¬(ds.length<1∨4<ds.length)):batF ds=if allF ds=0 then(if(ds.map TxnD.id).Nodup then 0 else 6)else allF ds:=if_neg h
theorem z9p(v:Value)(ds:List TxnD)(w:World)(h:TxnsAt w v ds)(hl:ds.length+z6g ds≤1048576):
  Calls Sl 154 #[v] w fun e w'=>e=.returned (H G (batF ds))∧Below w.heap.size w w':=by
 obtain⟨a,cap,rfl⟩:=h.shape;by_cases Y:ds.length<1
 ·rw[z3S (Or.inl Y)];go_enter func154,ntmps154
  go_wp2
  go_ret;exact⟨rfl,Below.refl _ _⟩
 ·by_cases W:4<ds.length
  ·rw[z3S (Or.inr W)];go_enter func154,ntmps154
   go_wp2
   go_ret;exact⟨rfl,Below.refl _ _⟩
  ·have HB:Hid (batF ds=if allF ds=0 then(if(ds.map TxnD.id).Nodup then 0 else 6)else allF ds):=q0d (by omega);generalize batF ds=E at HB⊢;have ah:1≤ds.length:=by omega
   have X:ds.length≤4:=by omega
   clear Y W;go_enter func154,ntmps154
   go_wp2
   go_loop[3] (fun j=>∃k:Nat,k≤ds.length∧j=H G k∧Hid (∀j,j<k→(ds.getD j z0m).F=0)) (fun j=>ds.length-(intOf j).toNat)
   case atStart=>exact⟨0,Nat.zero_le _,rfl,fun j hj=>absurd hj (Nat.not_lt_zero _)⟩
   case round=>
    obtain⟨k,hk,rfl,HA⟩:=hrel;by_cases y:k<ds.length
    ·obtain⟨b,A,aa,cc,rfl,ad,O,T,U,V,hA⟩:=h.at k y;have aj:(ds.getD k z0m).acts.length≤z6g ds:=z1x (by simp[Va,y]);have c:=z5q b (A+k*4) _ _ _ aa cc _ w (TxnsAt.box O T U V) hA (by omega);change Calls _ _ _ _ fun e w'=>e=.returned (H G ((ds.getD k z0m).F))∧_ at c
     clear O T U V hA;by_cases hF:(ds.getD k z0m).F=0
     ·have ab:Hid (∀j,j<k+1→(ds.getD j z0m).F=0):=by
       intro j hj;by_cases ae:j=k
       ·subst ae;exact hF
       ·exact HA.out j (by omega)
      rw[hF]at c;clear HA hF
      go_wp2_with (go_at_call 159;refine c.mono ?_;rintro e w' ⟨rfl,rfl⟩)
      go_round
      case rel=>exact⟨k+1,by omega,by go_num,ab⟩
      case measure=>simp[intOf];omega
     ·have E2:Hid (E=(ds.getD k z0m).F):=by
       have e1:=z6H ds k HA.out y hF;have e2:=HB.out;rw[e1,if_neg hF]at e2;exact e2
      have J:((ds.getD k z0m).F !=0)=true:=by simpa using hF
      clear HA hF HB;generalize (ds.getD k z0m).F=r at c E2 J
      go_wp2_with (go_at_call 159;refine c.mono ?_;rintro e w' ⟨rfl,rfl⟩)
      go_ret;rw[E2.out];exact⟨rfl,Below.refl _ _⟩
    ·have I:k=ds.length:=by omega
     subst I;have E3:Hid (E=if(ds.map TxnD.id).Nodup then 0 else 6):=by
      have e2:=HB.out;rw[if_pos (z8n ds HA.out)]at e2;exact e2
     clear HA HB;have D:=q17 _ ds w h (by omega)
     go_wp2_with fail
     refine D.mono ?_;rintro e w1 ⟨ib,ic,rfl,ho,C⟩;have hR:=Row.own ho;have ag:=q0c ho;have ai:(ds.map TxnD.id).length≤4:=by simpa using X
     clear D ho;generalize ds.map TxnD.id=L at*
     go_wp2
     go_loopw[6] (fun j wr=>∃k:Nat,k≤L.length∧j=H G k∧Hid ((L.take k).Nodup)∧Below w1.heap.size w1 wr) (fun j _=>L.length-(intOf j).toNat)
     case atStart=>exact⟨0,Nat.zero_le _,rfl,show List.Nodup _ by simp,Below.refl _ _⟩
     case round=>
      obtain⟨k,hk,rfl,HA,hb⟩:=hrel;by_cases y:k<L.length
      ·obtain⟨b,A,rfl,ad,hc⟩:=(hR.below hb) k y;have N:(L.take k).length=k:=by simp;omega
       have hT:=(hR.below hb).take6 k;have HY:Hid (L.getD k 0∈L.take k→E=6):=fun hx=>by rw[E3.out,if_neg (q2d y hx)]
       have HN:Hid (L.getD k 0∉L.take k→(L.take (k+1)).Nodup):=fun hx=>q03 HA.out y hx
       have d:=fun w h=>q02 (some ⟨b,A,none⟩) ic (L.take k) (L.getD k 0) w h (by omega)
       rw[N]at d;clear HA N;have hI:L.getD k 0∈L.take k∨L.getD k 0∉L.take k:=Classical.em _;have HI:Hid ((L.getD k 0∈L.take k∧0≤idxI (L.take k) (L.getD k 0))∨(L.getD k 0∉L.take k∧idxI (L.take k) (L.getD k 0)=-1)):=hI.elim (fun h=>Or.inl ⟨h,q5g h⟩) (fun h=>Or.inr ⟨h,q3O h⟩);clear hI;generalize L.getD k 0=z at*;generalize idxI (L.take k) z=q at*;have k0:=z0a hc;clear hc;have hW:Below wr.heap.size wr wr.drew:=(Below.refl _ _).drew;have J:Nonempty (Lat wr):=⟨⟨wr,Below.refl _ _⟩⟩
       have af:(k:Int)≤(ic:Int):=by omega
       go_wp2_with fail
       refine z0d (S:=fun w'=>∃u:Lat wr,w'=u.val) (by kernel_rfl) ?_;refine sgr [(0,2)] 7 (by kernel_rfl) ⟨⟨_,hW⟩,rfl⟩ ?_;simp only[pkE];repeat go_big_quiet_step (fail)
       refine wpQuiet_nil ?_;have Z:=q6F b A L.length ic k (by omega);refine qta 2 (some 38) (B (some ⟨b,A,none⟩) k ic) 6 (by kernel_rfl) (fun u _=>?_) ⟨⟨_,hW⟩,rfl⟩ ?_
       ·show some (((Instr.sliceAt 75 (B (some ⟨b,A,none⟩) L.length ic) none (some (H G (k:Int))) none)>>=fun x=>pure (Next.value x):Sem Next).run Sl u)=_;rw[Sem.run_bind,Z u];rfl
       clear Z;simp only[Act.put,pjE];refine sgr [(3,4)] 2 (by kernel_rfl) ⟨⟨_,hW⟩,rfl⟩ ?_;simp only[pkE];repeat go_big_quiet_step (fail)
       refine wpQuiet_nil ?_;refine cla 7 (some 43) 192 #[B (some ⟨b,A,none⟩) k ic,H G z] 1 (by kernel_rfl) ?_;refine(d _ (hT.below hW)).mono ?_;rintro e w2 ⟨rfl,M⟩;replace M:=M.symm;subst M;refine⟨_,rfl,⟨⟨_,hW⟩,rfl⟩,?_⟩;simp only[Act.put,pjE];refine sgr [(8,1)] 0 (by kernel_rfl) ⟨⟨_,hW⟩,rfl⟩ ?_;simp only[pkE];repeat go_big_quiet_step (fail)
       refine wpQuiet_nil ?_;refine z0h (by kernel_rfl) ?_;replace hb:=hb.trans (hW.mono hb.size);clear k0 hW J d hT af;generalize wr.drew=wd at*;by_cases hq:0≤q
       ·have E5:Hid (E=6):=by
         rcases HI.out with h|h
         ·exact HY.out h.1
         ·omega
        clear HI HY HN E3
        go_wp2
        go_ret;exact⟨by rw[E5.out];rfl,C.trans (hb.mono C.size)⟩
       ·have R:Hid ((L.take (k+1)).Nodup):=by
         rcases HI.out with h|h
         ·omega
         ·exact HN.out h.1
        clear HI HY HN
        go_wp2
        go_roundw
        case rel=>exact⟨k+1,by omega,by go_num,R,hb⟩
        case measure=>simp[intOf];omega
      ·have I:k=L.length:=by omega
       subst I;rw[List.take_length]at HA;have E4:Hid (E=0):=by
        have:=E3.out;rw[if_pos HA.out]at this;exact this
       clear HA E3
       go_wp2
       go_ret;exact⟨by rw[E4.out];rfl,C.trans (hb.mono C.size)⟩
end Go.Proofs.YtjjoahhnkpjolaaGreatDoor

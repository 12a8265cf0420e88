import Derived.Test.YtjjoahhnkpjolaaGreatDoorONAJ
import Derived.Test.YtjjoahhnkpjolaaGreatDoorONAK
set_option linter.unusedVariables false
set_option linter.unusedSimpArgs false
set_option maxRecDepth 100000
set_option maxHeartbeats 8000000
namespace Go.Proofs.YtjjoahhnkpjolaaGreatDoor
open Go.RowKit Go.BigFrame
open RoundQ renaming e->l
open List renaming mem_singleton->f,length_append->Vc
open Blk renaming new->Va
open Act renaming put->Vb
open IntKind renaming i64->K
open Value renaming int->H,slice->s
open Go.Proofs.Tryz renaming prog->i
open Go.Proofs.Tryz
section
variable {ops:Array Oper} {rest:List Oper} {op:Oper} {a:Act} {w:World} {Q:Exit→Act→World→Prop}
theorem z0A(hw:Region.wanted op (yielded ops a.tmps)=true)(ty:TypeId)(x y:Operand)(ho:op.op=.store ty x y)
  (g:Nat) (c:Array Value) (hx:a.eval x=.pointer (some ⟨g,0,none⟩)) (hy:a.eval y=.agg c)
  (t:TypeId) (d:Array Value) (hg:w.heap[g]?=some (.cells d t (0,0))) (hi:(i.info? ty).map (·.size)=some c.size)
  (z:d.size=c.size) (h1:c.all (·.oneCell')=true)
  (h:wpList i ops Q rest (a.put op.dst undef) (w.setRow g c)):wpList i ops Q (op::rest) a w:=by
 simp only[wpList];rw[if_pos hw];exact Or.inl (wp_store_row ty x y ho g c hx hy t d hg hi z h1 h)
end
theorem Blk.row{w:World}{b:Nat}{t:TypeId}{old:Array Value}(h:Blk w b t old)(cs:Array Value):Blk (w.setRow b cs) b t cs:=setRow_heap w b old cs t _ h
theorem z0o{B:Nat}{a w:World}(h:Below B a w){g:Nat}(hg:B≤g)(cs:Array Value):Below B a (w.setRow g cs):=
 ⟨h.os,h.tape,h.output,by rw[setRow_size];exact h.size,fun k hk=>(setRow_other w g k cs (by omega)).trans (h.block k hk)⟩
theorem q2n(zs:List Int):(zs.map iv).toArray.all (·.oneCell')=true:=all_oneCell_toArray (fun v hv=>by obtain⟨z,_,rfl⟩:=List.mem_map.1 hv;rfl)
theorem q2o{q:RoundE}(h:q.rep.length=3∧q.pro.length=3):∀j v,(q.pro.map iv)[j]?=some v→(z1e q)[3+j]?=some v:=by
 intro j v hv;obtain⟨hj,rfl⟩:=row_get h.2 hv;exact q0f h j hj
theorem z8r(rs:List RoundE)(v:Int)(w:World)(h:Wel rs)(h4:rs.length≤4):
  Calls i 171 #[.agg (rndC rs).toArray,H K v] w fun e w'=>e=.returned (.bool (agr rs v))∧Below w.heap.size w w':=by
 have B:=Va w 136 (rndC rs).toArray;have z:Below w.heap.size w (w.alloc (.cells (rndC rs).toArray 136)):=by go_grown
 have hc:=z9s rs;have ad:(rs.length:Int)≤4:=by omega
 generalize hE:agr rs v=E;have HE:Hid (E=agr rs v):=hE.symm;clear hE;have T:Hid (∀r,r<rs.length→∀j v,(z1e (rs.getD r z0I))[j]?=some v→(rndC rs)[1+r*6+j]?=some v):=fun r hr j v hv=>by
  have hj:=(List.getElem?_eq_some_iff.1 hv).1;rw[z00 (z2J h r hr)]at hj;rw[q0g h r hr j hj];exact hv
 generalize rndC rs=ds at*;go_enter func171,ntmps171
 go_wp2
 clear hc;generalize w.alloc (.cells ds.toArray 136)=W at*;go_loopw[12] (fun j wr=>∃k:Nat,k≤rs.length∧j=H K k∧Hid (∀j,j<k→cnt 7 (rs.getD j z0I).pro v<2)∧Below W.heap.size W wr) (fun j _=>rs.length-(intOf j).toNat)
 case atStart=>exact⟨0,Nat.zero_le _,rfl,fun j hj=>absurd hj (Nat.not_lt_zero _),Below.refl _ _⟩
 case round=>
  obtain⟨k,hk,rfl,HA,hb⟩:=hrel;by_cases N:k<rs.length
  ·have c:=z2J h k N;have HY:Hid (2≤cnt 7 (rs.getD k z0I).pro v→E=true):=fun hx=>by rw[HE.out];exact q4C N hx
   have HN:Hid (cnt 7 (rs.getD k z0I).pro v<2→∀j,j<k+1→cnt 7 (rs.getD j z0I).pro v<2):=fun hx j hj=>by
    by_cases aa:j=k
    ·subst aa;exact hx
    ·exact HA.out j (by omega)
   have I:=rng (B.below hb) (z1e (rs.getD k z0I)) (o:=1+k*6) (fun j v hv=>by rw[List.getElem?_toArray];exact T.out k N j v hv);clear HA;generalize rs.getD k z0I=q at*;have x:(i.info? 133).map (·.size)=some (z1e q).length:=by rw[z00 c];exact z9w
   have y:(i.info? 133).map (·.size)=some (z1e q).toArray.size:=x;have M:=Va wr 133 #[H K 0,H K 0,H K 0,H K 0,H K 0,H K 0];have U:=M.row (z1e q).toArray;have d:Below W.heap.size W ((wr.alloc (.cells #[H K 0,H K 0,H K 0,H K 0,H K 0,H K 0] 133)).setRow wr.heap.size (z1e q).toArray):=z0o (hb.alloc hb.size _) hb.size _;have J:=rng U (q.pro.map iv) (o:=3) (fun j v hv=>by rw[List.getElem?_toArray];exact q2o c j v hv);have L:(i.info? 131).map (·.size)=some (q.pro.map iv).length:=by rw[List.length_map,c.2];exact z18
   have A:(#[H K 0,H K 0,H K 0,H K 0,H K 0,H K 0]:Array Value).size=(z1e q).toArray.size:=(show 6=(z1e q).length by rw[z00 c])
   have D:(z1e q).toArray.all (·.oneCell')=true:=q2n _;have Y:=z2m q.pro
   go_wp2_with (first|(refine z7j (by kernel_rfl) 133 _ rfl _ _ rfl (z1e q) _ I Tryz.underlying133 rfl x ?_)|(refine z0A (by kernel_rfl) 133 _ _ rfl _ (z1e q).toArray rfl rfl 133 _ M y A D ?_)|(refine z7j (by kernel_rfl) 131 _ rfl _ _ rfl (q.pro.map iv) _ J Tryz.underlying131 rfl L ?_))
   clear I J x y L A D M U;generalize (wr.alloc (.cells #[H K 0,H K 0,H K 0,H K 0,H K 0,H K 0] 133)).setRow wr.heap.size (z1e q).toArray=W3 at*;refine(Y W3 c.2).mono ?_;rintro e w4 ⟨la,lc,rfl,lO,lG,lR,V⟩;replace d:=d.trans (V.mono d.size);have Z:=z1X la lc q.pro v w4 lR c.2;have X:=q5S q.pro v;have O:=z2g (vot q.pro v) w4 X;rw[q5e]at O;generalize vot q.pro v=m at*;generalize cnt 7 q.pro v=C at*;clear Y lO lG lR V hb X
   go_wp2_with fail
   refine Z.mono ?_;rintro e w' ⟨rfl,hw⟩;replace hw:=hw.symm;subst hw
   go_wp2_with fail
   refine O.mono ?_;rintro e w' ⟨rfl,hw⟩;replace hw:=hw.symm;subst hw;clear Z O;by_cases hC:2≤C
   ·have E2:Hid (E=true):=HY.out hC;clear HY HN HE T
    go_wp2
    go_ret;exact⟨by rw[E2.out];rfl,z.trans (d.mono z.size)⟩
   ·have R:=HN.out (by omega);have HR:Hid _:=R;clear HY HN R
    go_wp2
    go_roundw
    case rel=>exact⟨k+1,by omega,by go_num,HR.out,d⟩
    case measure=>simp[intOf];omega
  ·have ab:k=rs.length:=by omega
   subst ab;have E2:Hid (E=false):=by rw[HE.out];exact q0i HA.out
   clear HA HE
   go_wp2
   go_ret;exact⟨by rw[E2.out];rfl,z.trans (hb.mono z.size)⟩
theorem q2p{has:Bool}{rs:List RoundE}{r n:Nat}(hr:r<rs.length)(hn:n<3)(h:repI has rs r n=false∨proR rs r n=false):(List.range rs.length).all (q1K has rs)=false:=by
 rw[List.all_eq_false];refine⟨r,List.mem_range.2 hr,?_⟩;intro e;have:=(z7h has rs r).1 e n hn;rcases h with h|h
 ·rw[this.1]at h;exact absurd h (by decide)
 ·rw[this.2]at h;exact absurd h (by decide)
theorem q5i{rs:List RoundE}{dec:List Int}{n:Nat}(hn:n<3)(h:endR rs (dec.getD n 0)=false):z6f rs dec=false:=by
 cases he:z6f rs dec with
 |false=>rfl
 |true=>
  rw[(z2W rs dec).1 he n hn]at h;exact absurd h (by decide)
theorem z2L{w w':World}{b o:Nat}{L:List Value}(h:w.rangeAt b o L)(hb:Below w.heap.size w w'):w'.rangeAt b o L:=fun j v hv=>by
 have h1:=h j v hv;rw[hb.cell (p:=⟨b,o+j,none⟩) (World.block_lt_of_cell? w _ h1)];exact h1
theorem idx0(x y z:Int)(w:World):(Instr.index 131 (.agg #[H K x,H K y,H K z]) (H K 0)).run i w=.ok (H K x) w:=by kernel_rfl
theorem idx1(x y z:Int)(w:World):(Instr.index 131 (.agg #[H K x,H K y,H K z]) (H K 1)).run i w=.ok (H K y) w:=by kernel_rfl
theorem idx2(x y z:Int)(w:World):(Instr.index 131 (.agg #[H K x,H K y,H K z]) (H K 2)).run i w=.ok (H K z) w:=by kernel_rfl
theorem q2q{zs:List Int}(h3:zs.length=3)(m:Nat)(hm:m<3)(w:World):(Instr.index 131 (.agg (zs.map iv).toArray) (H K (m:Int))).run i w=.ok (H K (zs.getD m 0)) w:=by
 obtain⟨x,y,z,rfl⟩:=z7Z h3;have:m=0∨m=1∨m=2:=by omega
 rcases this with rfl|rfl|rfl
 ·exact idx0 x y z w
 ·exact idx1 x y z w
 ·exact idx2 x y z w
theorem z9z(has:Bool)(vb:Value)(rs:List RoundE)(dec:List Int)(w:World)(hG:Rul w)(h:Wel rs)(h4:rs.length≤4)(hd:dec.length=3):
  Calls i 129 #[.agg (brdC has vb rs dec).toArray] w fun e w'=>e=.returned (.bool ((List.range rs.length).all (q1K has rs) && z6f rs dec))∧Below w.heap.size w w':=by
 have B:=Va w 138 (brdC has vb rs dec).toArray;have d:Below w.heap.size w (w.alloc (.cells (brdC has vb rs dec).toArray 138)):=by go_grown
 have hc:(brdC has vb rs dec)[0]?=some (iv rs.length):=by rw[z5z h h4 0 (by omega)];rfl
 have V:=rng B (brdC has vb rs dec) (o:=0) (fun j v hv=>by rw[Nat.zero_add,List.getElem?_toArray];exact hv);have J:=z4l h h4 B;have Z:=rng B (dec.map iv) (o:=27) (fun j v hv=>by
  obtain⟨hj,rfl⟩:=row_get hd hv;rw[List.getElem?_toArray];exact z9v h h4 hd j hj)
 have ab:(i.info? 138).map (·.size)=some (brdC has vb rs dec).length:=by rw[z3A h h4 hd];exact z3T
 have L:(i.info? 136).map (·.size)=some (rndC rs).length:=by rw[z0u h h4];exact z2K
 have ad:(i.info? 131).map (·.size)=some (dec.map iv).length:=by rw[List.length_map,hd];exact z18
 have aa:=fun r n w hG hr hn=>z4m has vb rs dec r n w hG h h4 hd hr hn
 have U:=fun r n w hG hr hn=>z5A rs r n w hG h h4 hr hn
 have af:=fun v w=>z8r rs v w h h4
 generalize hE:((List.range rs.length).all (q1K has rs) && z6f rs dec)=E;have HE:Hid (E=((List.range rs.length).all (q1K has rs) && z6f rs dec)):=hE.symm;clear hE h B;generalize brdC has vb rs dec=cs at*;generalize rndC rs=ds at*;go_enter func129,ntmps129
 go_wp2
 clear hc;generalize w.alloc (.cells cs.toArray 138)=W at*;replace hG:=hG.below d;go_loopw[10] (fun j wr=>∃k:Nat,k≤rs.length∧j=H K k∧Hid (∀j,j<k→q1K has rs j=true)∧Below W.heap.size W wr) (fun j _=>rs.length-(intOf j).toNat)
 case atStart=>exact⟨0,Nat.zero_le _,rfl,fun j hj=>absurd hj (Nat.not_lt_zero _),Below.refl _ _⟩
 case round=>
  obtain⟨k,hk,rfl,HA,hb⟩:=hrel;by_cases I:k<rs.length
  ·go_wp2
   go_loopw[13] (fun j wx=>∃m:Nat,m≤3∧j=H K m∧Hid (∀j,j<m→repI has rs k j=true∧proR rs k j=true)∧Below W.heap.size W wx) (fun j _=>3-(intOf j).toNat)
   case atStart=>exact⟨0,Nat.zero_le _,rfl,fun j hj=>absurd hj (Nat.not_lt_zero _),hb⟩
   case round=>
    obtain⟨m,hm,rfl,HB,c⟩:=hrel;by_cases y:m<3
    ·have T:(m:Int)<3:=by omega
     have HX:Hid (repI has rs k m=false→E=false):=fun hx=>by rw[HE.out,q2p I y (Or.inl hx)];rfl
     have HY:Hid (proR rs k m=false→E=false):=fun hx=>by rw[HE.out,q2p I y (Or.inr hx)];rfl
     have HN:Hid (repI has rs k m=true→proR rs k m=true→∀j,j<m+1→repI has rs k j=true∧proR rs k j=true):=fun h1 h2 j hj=>by
      by_cases M:j=m
      ·subst M;exact⟨h1,h2⟩
      ·exact HB.out j (by omega)
     have h1:=aa k m _ (hG.below c) I y;have h2:=fun w hG=>U k m w hG I y
     have A:=z2L V c;clear HB;generalize repI has rs k m=X at*;generalize proR rs k m=Y at*
     go_wp2_with (refine z7j (by kernel_rfl) 138 _ rfl _ _ rfl cs _ A Tryz.underlying138 rfl ab ?_)
     clear A;refine h1.mono ?_;rintro e w5 ⟨rfl,O⟩;replace c:=c.trans (O.mono c.size);clear h1 O
     cases X with
     |false=>
      have E2:Hid (E=false):=HX.out rfl;clear HX HY HN HE HA
      go_wp2
      go_ret;exact⟨by rw[E2.out];rfl,d.trans (c.mono d.size)⟩
     |true=>
      have C:=z2L J c;have h3:=h2 w5 (hG.below c)
      go_wp2_with (refine z7j (by kernel_rfl) 136 _ rfl _ _ rfl ds _ C Tryz.underlying136 rfl L ?_)
      clear C h2;refine h3.mono ?_;rintro e w6 ⟨rfl,z⟩;replace c:=c.trans (z.mono c.size);clear h3 z
      cases Y with
      |false=>
       have E2:Hid (E=false):=HY.out rfl;clear HX HY HN HE HA
       go_wp2
       go_ret;exact⟨by rw[E2.out];rfl,d.trans (c.mono d.size)⟩
      |true=>
       have R:=HN.out (by first|rfl|trivial) (by first|rfl|trivial);have HR:Hid _:=R;clear HX HY HN R
       go_wp2
       go_roundw
       case rel=>exact⟨m+1,by omega,by go_num,HR.out,c⟩
       case measure=>simp[intOf];omega
    ·have N:m=3:=by omega
     subst N;have HR:Hid (∀j,j<k+1→q1K has rs j=true):=fun j hj=>by
      by_cases ag:j=k
      ·subst ag;exact(z7h has rs j).2 HB.out
      ·exact HA.out j (by omega)
     clear HA HB
     go_wp2
     go_roundw
     case rel=>exact⟨k+1,by omega,by go_num,HR.out,c⟩
     case measure=>simp[intOf];omega
  ·have ah:k=rs.length:=by omega
   subst ah;have D:Hid (E=z6f rs dec):=show _=_ by
    have e:(List.range rs.length).all (q1K has rs)=true:=by
     rw[List.all_eq_true];intro x hx;exact HA.out x (List.mem_range.1 hx)
    rw[HE.out,e,Bool.true_and]
   clear HA HE aa U;have A:=z2L Z hb
   go_wp2_with (refine z7j (by kernel_rfl) 131 _ rfl _ _ rfl (dec.map iv) _ A Tryz.underlying131 rfl ad ?_)
   clear A;go_loopw[33] (fun j wx=>∃m:Nat,m≤3∧j=H K m∧Hid (∀j,j<m→endR rs (dec.getD j 0)=true)∧Below W.heap.size W wx) (fun j _=>3-(intOf j).toNat)
   case atStart=>exact⟨0,Nat.zero_le _,rfl,fun j hj=>absurd hj (Nat.not_lt_zero _),hb⟩
   case round=>
    obtain⟨m,hm,rfl,HB,c⟩:=hrel;by_cases y:m<3
    ·have T:(m:Int)<3:=by omega
     have HY:Hid (endR rs (dec.getD m 0)=false→E=false):=fun hx=>by rw[D.out,q5i y hx]
     have HN:Hid (endR rs (dec.getD m 0)=true→∀j,j<m+1→endR rs (dec.getD j 0)=true):=fun hx j hj=>by
      by_cases M:j=m
      ·subst M;exact hx
      ·exact HB.out j (by omega)
     have HV:Hid (endR rs (dec.getD m 0)=((dec.getD m 0==3)||agr rs (dec.getD m 0))):=(rfl:_=_)
     have aj:=fun w=>q2q hd m y w
     have h1:=af (dec.getD m 0);have C:=z2L J c;clear HB;generalize dec.getD m 0=v at*;by_cases hv:v=3
     ·have ai:(v !=3)=false:=by simp[hv]
      have R:=HN.out (by rw[HV.out,hv];rfl);have HR:Hid _:=R;clear HY HN HV R hv
      go_wp2
      go_roundw
      case rel=>exact⟨m+1,by omega,by go_num,HR.out,c⟩
      case measure=>simp[intOf];omega
     ·have ai:(v !=3)=true:=by simpa using hv
      have ae:(v==3)=false:=by simpa using hv
      rw[ae,Bool.false_or]at HV;rw[HV.out]at HY HN;generalize agr rs v=X at*;clear HV hv ae;have h3:=h1 wr
      go_wp2_with (refine z7j (by kernel_rfl) 136 _ rfl _ _ rfl ds _ C Tryz.underlying136 rfl L ?_)
      clear C h1;refine h3.mono ?_;rintro e w6 ⟨rfl,z⟩;replace c:=c.trans (z.mono c.size);clear h3 z
      cases X with
      |false=>
       have E2:Hid (E=false):=HY.out rfl;clear HY HN D
       go_wp2
       go_ret;exact⟨by rw[E2.out];rfl,d.trans (c.mono d.size)⟩
      |true=>
       have R:=HN.out (by first|rfl|trivial);have HR:Hid _:=R;clear HY HN R
       go_wp2
       go_roundw
       case rel=>exact⟨m+1,by omega,by go_num,HR.out,c⟩
       case measure=>simp[intOf];omega
    ·have N:m=3:=by omega
     subst N;have E2:Hid (E=true):=by rw[D.out,(z2W rs dec).2 HB.out];rfl
     clear HB D
     go_wp2
     go_ret;exact⟨by rw[E2.out];rfl,d.trans (c.mono d.size)⟩
theorem q2r(w:World)(ty g:Nat)(cur:Array Value)(b off sc:Nat)(zs:List Int)(hz:zs.length=3)(hg:w.heap[g]?=some (.cells cur 131 (0,0)))(hc:cur.size=3)(hr:Row .i64 w (some ⟨b,off,none⟩) zs):
  (Builtin.copy_ #[75,75] ty #[s (some ⟨g,0,none⟩) 3 3,s (some ⟨b,off,none⟩) 3 sc]).run i w=.ok (goInt 3) (w.setRow g (zs.map iv).toArray):=by
 obtain⟨i0,hi,hz0,hz1,hz2⟩:=info_parts q2j;have hlen:(zs.map iv).length=3:=by simp[hz]
 have hl:=run_loadCells_list (P:=i) w ⟨b,off,none⟩ (zs.map iv) (z2U (z3y hr));have hst:=run_storeCells_at i g 0 131 (zs.map iv) 0 cur w hg (by omega) (fun v hv=>by obtain⟨z,_,rfl⟩:=List.mem_map.1 hv;rfl);have e:cur.toList.drop (zs.map iv).length=[]:=List.drop_of_length_le (by simp;omega);simp only[Nat.zero_add,Nat.add_zero,List.take_zero,List.nil_append,e,List.append_nil]at hst;rw[hlen]at hl;simp[Builtin.copy_,run_underlying Tryz.underlying75,Builtin.lenOf,Builtin.firstCells,sizeOf,typeInfo,hi,hz1,hl,hst]
theorem z8s(b off cap:Nat)(zs:List Int)(w:World)(h:Row .i64 w (some ⟨b,off,none⟩) zs)(h3:zs.length=3):
  Calls i 127 #[s (some ⟨b,off,none⟩) 3 cap] w fun e w'=>e=.returned (.agg (zs.map iv).toArray)∧Below w.heap.size w w':=by
 have hb0:Below w.heap.size w ((w.alloc (.cells #[H K 0,H K 0,H K 0] 131)).alloc (.cells #[H K 0,H K 0,H K 0] 131)):=by go_grown
 have C:=(Va w 131 #[H K 0,H K 0,H K 0]).below (w':=(w.alloc (.cells #[H K 0,H K 0,H K 0] 131)).alloc (.cells #[H K 0,H K 0,H K 0] 131)) (by go_grown);have D:=Va (w.alloc (.cells #[H K 0,H K 0,H K 0] 131)) 131 #[H K 0,H K 0,H K 0];simp only[World.size_alloc]at D;have hcp0:=fun ty=>q2r _ ty (w.heap.size+1) _ b off cap zs h3 D rfl (h.below hb0)
 obtain⟨x,y,z,rfl⟩:=z7Z h3;obtain⟨W2,hcp,D2,C2,hb2⟩:∃W2,(∀ty,(Builtin.copy_ #[75,75] ty #[s (some ⟨w.heap.size+1,0,none⟩) 3 3,s (some ⟨b,off,none⟩) 3 cap]).run i ((w.alloc (.cells #[H K 0,H K 0,H K 0] 131)).alloc (.cells #[H K 0,H K 0,H K 0] 131))=.ok (goInt 3) W2)∧Blk W2 (w.heap.size+1) 131 #[H K x,H K y,H K z]∧Blk W2 w.heap.size 131 #[H K 0,H K 0,H K 0]∧Below w.heap.size w W2:=
  ⟨_,hcp0,D.row _,(setRow_other _ _ _ _ (by omega)).trans C,z0o hb0 (g:=w.heap.size+1) (by omega) _⟩
 obtain⟨p0,p1,p2⟩:=D2.cel3;obtain⟨q0,q1,q2⟩:=C2.cel3;obtain⟨f0,f1,f2⟩:=C2.frz3;clear C D D2 C2 hb0 h hcp0;go_enter func127,ntmps127
 go_wp2
 exact bodyPost_ret (v:=.agg #[H K x,H K y,H K z]) (by simp[results,results127,go_sem,q0,q1,q2]) rfl ⟨rfl,((hb2.setCell (p:=⟨w.heap.size,0,none⟩) (Nat.le_refl _) _).setCell (p:=⟨w.heap.size,1,none⟩) (Nat.le_refl _) _).setCell (p:=⟨w.heap.size,2,none⟩) (Nat.le_refl _) _⟩
theorem z4L(b:Nat)(t:TypeId):∀ (vs:List Value) (o:Nat) (w:World) (cs:List Value),Blk w b t cs.toArray→Blk (w.setCells b o vs) b t (z1j cs o vs).toArray
 |[],_,_,_,h=>h
 |v::r,o,w,cs,h=>by
  have h1:=h.set o v;rw[List.setIfInBounds_toArray]at h1;exact z4L b t r (o+1) _ _ h1
theorem z2M(b:Nat):∀ (vs:List Value) (o:Nat) (w:World),Out [b] w (w.setCells b o vs)
 |[],_,w=>Out.refl _ w
 |v::r,o,w=>(Out.setCell w b o v).trans (z2M b r (o+1) _)
theorem z9A(A B C Y:List Value)(h:B.length=Y.length):z1j (A++(B++C)) A.length Y=A++(Y++C):=by
 apply List.ext_getElem?;intro j;by_cases hj:j<(A++(B++C)).length
 ·rw[z3x _ _ _ _ hj];simp only[Vc]at hj;by_cases h1:A.length≤j∧j<A.length+Y.length
  ·rw[if_pos h1,List.getElem?_append_right h1.1,List.getElem?_append_left (by omega)]
  ·rw[if_neg h1];by_cases h2:j<A.length
   ·rw[List.getElem?_append_left h2,List.getElem?_append_left h2]
   ·rw[List.getElem?_append_right (by omega),List.getElem?_append_right (by omega),List.getElem?_append_right (by omega),List.getElem?_append_right (by omega),h]
 ·rw[List.getElem?_eq_none (by rw[z13];omega),List.getElem?_eq_none (by simp only[Vc]at hj⊢;omega)]
theorem q07(rs:List RoundE)(q:RoundE):z4k (rs++[q])=z4k rs++z1e q:=by simp[z4k]
theorem q3S{rs:List RoundE}{q:RoundE}(tail:List Value)(h:Wel rs)(hq:q.rep.length=3∧q.pro.length=3)(h4:rs.length<4):
  (z1j (rndC rs++tail) (1+rs.length*6) (z1e q)).set 0 (iv ((rs.length:Int)+1))=rndC (rs++[q])++tail:=by
 have hl:=z2I h;have hq6:=z00 hq;have e1:rndC rs++tail=(iv rs.length::z4k rs)++(List.replicate 6 (iv 0)++(List.replicate (18-6*rs.length) (iv 0)++tail)):=by
  unfold rndC;rw[show 24-6*rs.length=6+(18-6*rs.length) by omega,←List.replicate_append_replicate];simp[List.append_assoc]
 have e2:(iv rs.length::z4k rs).length=1+rs.length*6:=by simp only[List.length_cons,hl];omega
 rw[e1,←e2,z9A _ _ _ _ (by rw[List.length_replicate,hq6])];unfold rndC;rw[q07,Vc,List.length_singleton,show 24-6*(rs.length+1)=18-6*rs.length by omega];simp[List.append_assoc]
structure LatR (b g:Nat) (w:World) where
 val:World
 cnt:val.cell? ⟨b,0,none⟩=w.cell? ⟨b,0,none⟩
 box:val.heap[g]?=w.heap[g]?
theorem z4M(b:Nat)(t:TypeId)(rs:List RoundE)(d:List Value)(q:RoundE)(w:World)(hB:Blk w b t (rndC rs++d).toArray)(h:Wel rs)(hq:q.rep.length=3∧q.pro.length=3)(h4:rs.length<4):
  Calls i 128 #[.pointer (some ⟨b,0,none⟩),.agg (z1e q).toArray] w fun e w'=>e=.returned (.tuple #[])∧Blk w' b t (rndC (rs++[q])++d).toArray∧Out [b] w w':=by
 have ae:=hB.lt;have O:Below w.heap.size w (w.alloc (.cells (z1e q).toArray 133)):=by go_grown
 have G:=Va w 133 (z1e q).toArray;replace hB:=hB.below O;have C:(w.alloc (.cells (z1e q).toArray 133)).cell? ⟨b,0,none⟩=some (iv rs.length):=hB.cell 0 _ rfl;have T:(z1e q).toArray.all (·.oneCell')=true:=q2n _;have L:(i.info? 133).map (·.size)=some (z1e q).length:=by rw[z00 hq];exact z9w
 have af:=z0u h (by omega);have A:∀W':World,W'.heap[b]?=(w.alloc (.cells (z1e q).toArray 133)).heap[b]?→W'.there b (1+rs.length*6) (z1e q).toArray.size:=by
  intro W' Z j hj;rw[List.size_toArray,z00 hq]at hj;have N:Blk W' b t (rndC rs++d).toArray:=Z.trans hB;have ab:1+rs.length*6+j<(rndC rs++d).length:=by simp only[Vc];omega
  have hx:=List.getElem?_eq_getElem ab;exact⟨by rw[N.cell _ _ (by rw[List.getElem?_toArray];exact hx)];rfl,N.frozen _⟩
 have J:=q3S d h hq h4;have E:Hid ((z1j (rndC rs++d) (1+rs.length*6) (z1e q)).set 0 (iv ((rs.length:Int)+1))=rndC (rs++[q])++d):=J;clear J;generalize rndC (rs++[q])++d=es at*;generalize rndC rs++d=cs at*;have ag:(rs.length:Int)<4:=by omega
 generalize rs.length=c at*;go_enter func128,ntmps128
 go_wp2_with fail
 generalize w.alloc (.cells (z1e q).toArray 133)=W at*;have y:W.drew.cell? ⟨b,0,none⟩=W.cell? ⟨b,0,none⟩:=rfl;have z:W.drew.heap[w.heap.size]?=W.heap[w.heap.size]?:=rfl;have ad:Nonempty (LatR b w.heap.size W):=⟨⟨W,rfl,rfl⟩⟩
 have k0:∀u:LatR b w.heap.size W,u.val.cell? ⟨b,0,none⟩=some (iv c):=fun u=>u.cnt.trans C
 have V:∀u:LatR b w.heap.size W,(Instr.loadAt 133 (.pointer (some ⟨w.heap.size,0,none⟩))).run i u.val=.ok (.agg (z1e q).toArray) u.val:=fun u=>by
  have hG:Blk u.val w.heap.size 133 (z1e q).toArray:=u.box.trans G;exact run_loadAt_mid u.val w.heap.size 0 133 (z1e q) _ (rng hG _ (fun j v hv=>by rw[Nat.zero_add,List.getElem?_toArray];exact hv)) Tryz.underlying133 rfl L
 refine z0d (S:=fun w'=>∃u:LatR b w.heap.size W,w'=u.val) (by kernel_rfl) ?_;refine sgr [(0,2)] 8 (by kernel_rfl) ⟨⟨_,y,z⟩,rfl⟩ ?_;simp only[pkE];repeat go_big_quiet_step (fail)
 refine wpQuiet_nil ?_;refine qta 2 (some 6) (.pointer (some ⟨b,0,none⟩)) 7 (by kernel_rfl) (fun u _=>by kernel_rfl) ⟨⟨_,y,z⟩,rfl⟩ ?_;simp only[Vb,pjE];refine sgr [(3,2)] 5 (by kernel_rfl) ⟨⟨_,y,z⟩,rfl⟩ ?_;simp only[pkE];repeat go_big_quiet_step (fail)
 refine wpQuiet_nil ?_;refine qta 5 (some 9) (.agg (z1e q).toArray) 4 (by kernel_rfl) (fun u hu=>?_) ⟨⟨_,y,z⟩,rfl⟩ ?_
 ·obtain⟨u,rfl⟩:=hu;show some (((Instr.loadAt 133 (.pointer (some ⟨w.heap.size,0,none⟩)))>>=fun x=>pure (Next.value x):Sem Next).run i u.val)=_;rw[Sem.run_bind,V u];rfl
 simp only[Vb,pjE];refine qta 6 (some 10) (.pointer (some ⟨b,0,none⟩)) 3 (by kernel_rfl) (fun u _=>by kernel_rfl) ⟨⟨_,y,z⟩,rfl⟩ ?_;simp only[Vb,pjE];refine sgr [(7,2)] 1 (by kernel_rfl) ⟨⟨_,y,z⟩,rfl⟩ ?_;simp only[pkE];repeat go_big_quiet_step (fail)
 refine wpQuiet_nil ?_;refine ona 9 0 rfl (by kernel_rfl) ?_;refine st_g (by kernel_rfl) 133 _ _ rfl b (1+c*6) (z1e q).toArray rfl rfl (A _ rfl) L T ?_;have D:Blk (W.drew.setCells b (1+c*6) (z1e q)) b t (z1j cs (1+c*6) (z1e q)).toArray:=z4L b t (z1e q) (1+c*6) W.drew cs hB;have U:Out [b] w (W.drew.setCells b (1+c*6) (z1e q)):=(Out.of_below O).trans ((Out.of_below ((Below.refl _ _).drew)).trans (z2M b (z1e q) (1+c*6) W.drew));have aa:w.heap.size≠b:=by omega
 have I:(W.drew.setCells b (1+c*6) (z1e q)).heap[w.heap.size]?=W.heap[w.heap.size]?:=((z2M b (z1e q) (1+c*6) W.drew).block _ G.lt (by simp only[f];exact aa))
 have M:(W.drew.setCells b (1+c*6) (z1e q)).cell? ⟨b,0,none⟩=W.cell? ⟨b,0,none⟩:=World.cell?_setCells_out b (z1e q) (1+c*6) W.drew ⟨b,0,none⟩ (fun _ _=>Or.inl (by show 0<1+c*6;omega));refine ThenGo.to ⟨⟨⟨_,M,I⟩,rfl⟩,?_⟩;refine z0h (by kernel_rfl) ?_;have Y:=M.trans C;have ah:=D.frozen 0;have F:=D.set 0 (iv ((c:Int)+1));rw[List.setIfInBounds_toArray,E.out]at F;have U2:=U.set (b:=b) (j:=0) (u:=iv ((c:Int)+1)) (by simp);have HF:Hid (Blk _ b t es.toArray∧Out [b] w _):=And.intro F U2;clear F U2 D U M I z y k0 V ad A E;generalize W.drew.setCells b (1+c*6) (z1e q)=X at*
 go_wp2
 go_end0
 exact⟨rfl,HF.out⟩
def z1Q:Act→List (Option Tmp)→List Value→Act
 |a,d::ds,v::vs=>z1Q (a.put d v) ds vs
 |a,_,_=>a
section
variable {P:Program} {ops:Array Oper} {Q:Exit→Act→World→Prop}
theorem z1k{id:Nat}{a:Act}{w:World}(ds:List (Option Tmp))(R:List Value→World→Prop)
  (hreg:(Code.region id ops true).wp P (fun e a' w'=>e=.normal∧∃vs,R vs w'∧a'=z1Q a ds vs) a w) (himp:∀vs w',R vs w'→Q .normal (z1Q a ds vs) w'):(Code.region id ops true).wp P Q a w:=by
 refine Code.wp_mono ?_ hreg;rintro e a' w' ⟨rfl,vs,hR,rfl⟩;exact himp vs w' hR
end
structure LatO (F:List Nat) (w:World) where
 val:World
 isOut:Out F w val
theorem z0l{F:List Nat}{w:World}{b o:Nat}{v:Value}(h:w.cell? ⟨b,o,none⟩=some v)(hF:b∉F):∀u:LatO F w,u.val.cell? ⟨b,o,none⟩=some v:=fun u=>by
 have hb:=World.block_lt_of_cell? w _ h;have e:=u.isOut.block b hb hF;unfold World.cell? at h⊢;simp only at h⊢;rw[e];exact h
def brd0:List Value:=brdC false (s none 0 0) [] [0,0,0]
theorem z3C{fn:Func}{p q:Tmp}{ty:TypeId}(h:fn.results=#[.cell p ty,.tmp q])(tmps:Array Value)(w:World)(g:Nat)(cs:Array Value)(v:Value)
  (hp:tmps.getD p undef=.pointer (some ⟨g,0,none⟩)) (hq:tmps.getD q undef=v) (hld:(loadVar ty ⟨g,0,none⟩).run i w=.ok (.agg cs) w):
  (results fn tmps).run i w=.ok (.tuple #[.agg cs,v]) w:=by
 have hp':tmps[p]?.getD undef=.pointer (some ⟨g,0,none⟩):=by simpa using hp
 have hq':tmps[q]?.getD undef=v:=by simpa using hq
 simp[results,h,hp',hq',asAddr,hld]
theorem q2s{w:World}{g:Nat}{t:TypeId}{L:List Value}(hB:Blk w g t L.toArray)(hl:L.length=30):(loadVar 138 ⟨g,0,none⟩).run i w=.ok (.agg L.toArray) w:=
 run_loadVar_mid w g 0 138 L _ (rng hB L (fun j v hv=>by rw[Nat.zero_add,List.getElem?_toArray];exact hv)) Tryz.underlying138 rfl (by rw[hl];exact z3T)
theorem q4D{rs:List RoundE}(h:z0R rs=0):Wel rs:=fun r hr=>by
 obtain⟨k,hk,rfl⟩:=List.getElem_of_mem hr;have:=z1Z h k hk;have e:rs.getD k z0I=rs[k]:=by simp[List.getD,hk]
 rw[e]at this;exact⟨z07 this.1,z07 this.2⟩
theorem q3T{rs:List RoundE}(h:Wel rs)(k:Nat):Wel (rs.take k):=fun r hr=>h r (List.mem_of_mem_take hr)
theorem q58{x:InstE}(h:shpF x=0):insF x=if q5Q x then 0 else 10:=if_pos h
theorem z5B(p:InstQ)(w:World)(hG:Rul w)(h:instK.rd w p)(hl:p.n≤1048576):
  Calls i 80 #[.agg #[.bool p.has,p.vb,p.vr,p.vd]] w fun e w'=>e=.returned (.tuple #[.agg (if insF p.e=0 then brdC p.has p.vb p.e.rounds p.dec else brd0).toArray,H K (insF p.e)])∧Below w.heap.size w w':=by
 have aw:=fun w h=>z7i p w h hl
 have az:=fun(w':World) hb=>instK.rd_below (w':=w') h hb
 generalize hC:insF p.e=C;generalize aI:(if C=0 then brdC p.has p.vb p.e.rounds p.dec else brd0)=BD;have HC:Hid (insF p.e=C∧(if C=0 then brdC p.has p.vb p.e.rounds p.dec else brd0)=BD):=And.intro hC aI;clear hC aI;obtain⟨has,vb,d,vr,c,vd,dec⟩:=p;obtain⟨hT,hR,hD⟩:txnK.At w vb d∧roundK.At w vr c∧intK.At w vd dec:=h;obtain⟨ba,bk,rfl⟩:=hT.shape;obtain⟨va,vk,rfl⟩:=hR.shape;obtain⟨da,dk,rfl⟩:=hD.shape;dsimp only at aw az;have B:=(Va w 89 #[.bool has,s ba d.length bk,s va c.length vk,s da dec.length dk]).below (w':=(w.alloc (.cells #[.bool has,s ba d.length bk,s va c.length vk,s da dec.length dk] 89)).alloc (.cells brd0.toArray 138)) (by go_grown);have Rb:=Va (w.alloc (.cells #[.bool has,s ba d.length bk,s va c.length vk,s da dec.length dk] 89)) 138 brd0.toArray;simp only[World.size_alloc]at Rb;have hB:Below w.heap.size w ((w.alloc (.cells #[.bool has,s ba d.length bk,s va c.length vk,s da dec.length dk] 89)).alloc (.cells brd0.toArray 138)):=by go_grown
 have bg:(i.info? 138).map (·.size)=some brd0.toArray.size:=by kernel_rfl
 have a8:brd0.toArray.size=brd0.toArray.size:=rfl;have ap:(i.info? 138).map (·.size)=some (#[H K 0,H K 0,H K 0,H K 0,H K 0,H K 0,H K 0,H K 0,H K 0,H K 0,H K 0,H K 0,H K 0,H K 0,H K 0,H K 0,H K 0,H K 0,H K 0,H K 0,H K 0,H K 0,H K 0,H K 0,H K 0,.bool false,s none 0 0,H K 0,H K 0,H K 0]:Array Value).size:=by kernel_rfl
 have V:brd0.toArray.size=(#[H K 0,H K 0,H K 0,H K 0,H K 0,H K 0,H K 0,H K 0,H K 0,H K 0,H K 0,H K 0,H K 0,H K 0,H K 0,H K 0,H K 0,H K 0,H K 0,H K 0,H K 0,H K 0,H K 0,H K 0,H K 0,.bool false,s none 0 0,H K 0,H K 0,H K 0]:Array Value).size:=rfl;have Z:(#[H K 0,H K 0,H K 0,H K 0,H K 0,H K 0,H K 0,H K 0,H K 0,H K 0,H K 0,H K 0,H K 0,H K 0,H K 0,H K 0,H K 0,H K 0,H K 0,H K 0,H K 0,H K 0,H K 0,H K 0,H K 0,.bool false,s none 0 0,H K 0,H K 0,H K 0]:Array Value).all (·.oneCell')=true:=by kernel_rfl
 have bb:brd0.toArray.all (·.oneCell')=true:=by kernel_rfl
 have bh:#[H K 0,H K 0,H K 0,H K 0,H K 0,H K 0,H K 0,H K 0,H K 0,H K 0,H K 0,H K 0,H K 0,H K 0,H K 0,H K 0,H K 0,H K 0,H K 0,H K 0,H K 0,H K 0,H K 0,H K 0,H K 0,.bool false,s none 0 0,H K 0,H K 0,H K 0]=brd0.toArray:=rfl;go_enter func80,ntmps80
 go_wp2_with fail
 generalize (w.alloc (.cells #[.bool has,s ba d.length bk,s va c.length vk,s da dec.length dk] 89)).alloc (.cells brd0.toArray 138)=W at*;refine(aw W (az W hB)).mono ?_;rintro e w1 ⟨rfl,aj⟩;have Bx:=B.below aj;replace Rb:=Rb.below aj;replace hB:=hB.trans (aj.mono hB.size);have br:w.heap.size+1<w1.heap.size:=Rb.lt;clear aw az aj B;by_cases h0:shpF (InstQ.e ⟨has,s ba d.length bk,d,s va c.length vk,c,s da dec.length dk,dec⟩)=0
 ·obtain⟨⟨h1,h4⟩,hF,aq,_,_⟩:=z1p h0;have aJ:=q58 h0;replace hF:z0R (c.map l)=0:=hF;replace aq:vf dec 1=0:=aq;replace h1:1≤(c.map l).length:=h1;replace h4:(c.map l).length≤4:=h4;rw[List.length_map]at h1 h4;have ag:Hid (C=if(List.range (c.map l).length).all (q1K has (c.map l)) && z6f (c.map l) dec then 0 else 10):=HC.out.1.symm.trans aJ;have af:Hid ((if C=0 then brdC has (s ba d.length bk) (c.map l) dec else brd0)=BD):=HC.out.2;rw[h0];clear h0 aJ HC;have a2:=z07 aq;obtain⟨d0,d1,d2,rfl⟩:=z7Z a2;have ai:=(z0P (hD.below hB)).2;obtain⟨db,O,a6,_,_⟩:=ai 0 (by simp);subst a6;have aA:=fun b aB cap w h h3=>z8s b aB cap [d0,d1,d2] w h h3
  have aa:=fun zs b aB cap w h h3=>z8s b aB cap zs w h h3
  have a1:[d0,d1,d2].length=3:=rfl;rw[a1]at Bx
  go_wp2_with fail
  refine z1k [some 14,some 15,some 16,some 17,some 18,some 19,some 20,some 21,some 5] (fun vs w'=>∃g:Nat,vs=[.pointer (some ⟨w.heap.size,0,none⟩),.bool has,.pointer (some ⟨w.heap.size,1,none⟩),s ba d.length bk,.pointer (some ⟨w.heap.size,3,none⟩),s (some ⟨db,O,none⟩) 3 dk,.agg #[iv d0,iv d1,iv d2],.agg (brdC has (s ba d.length bk) [] [d0,d1,d2]).toArray,.pointer (some ⟨g,0,none⟩)]∧w1.heap.size≤g∧Blk w' g 138 (brdC has (s ba d.length bk) [] [d0,d1,d2]).toArray∧Below w1.heap.size w1 w') ?_ ?_
  ·have hW:Below w1.heap.size w1 w1.drew:=(Below.refl _ _).drew;have aM:Nonempty (Lat w1):=⟨⟨w1,Below.refl _ _⟩⟩
   obtain⟨p0,p1⟩:=Bx.lts2;have p3:=Bx.lat 3 _ rfl;have D:(i.info? 138).map (·.size)=some (brdC has (s ba d.length bk) [] [d0,d1,d2]).toArray.size:=by kernel_rfl
   have an:brd0.toArray.size=(brdC has (s ba d.length bk) [] [d0,d1,d2]).toArray.size:=rfl;have ao:(brdC has (s ba d.length bk) [] [d0,d1,d2]).toArray.all (·.oneCell')=true:=by kernel_rfl
   refine z0d (S:=fun w'=>∃u:Lat w1,w'=u.val) (by kernel_rfl) ?_;refine sgr [(0,6)] 4 (by kernel_rfl) ⟨⟨_,hW⟩,rfl⟩ ?_;simp only[pkE];repeat go_big_quiet_step (fail)
   refine wpQuiet_nil ?_;clear p0 p1 p3;generalize w1.drew=wd at hW⊢;refine twa 6 8 3 (by kernel_rfl) ?_ ?_
   ·refine opc 6 (some 20) 127 #[s (some ⟨db,O,none⟩) 3 dk] (by kernel_rfl) ?_;refine(aA db O dk _ (ai.below hW) rfl).mono ?_;rintro e w8 ⟨rfl,A⟩;replace hW:=hW.trans (A.mono hW.size);clear A;refine⟨_,rfl,⟨⟨_,hW⟩,rfl⟩,?_⟩;simp only[Vb,pgE,pjE];refine qta 7 (some 21) (.agg (brdC has (s ba d.length bk) [] [d0,d1,d2]).toArray) 2 (by kernel_rfl) (fun u _=>by kernel_rfl) ⟨⟨_,hW⟩,rfl⟩ ?_;simp only[Vb,pgE,pjE];refine ona 8 1 rfl (by kernel_rfl) ?_;have Bz:=Va w8 138 brd0.toArray;have M:w1.heap.size≤w8.heap.size:=hW.size;replace hW:=hW.alloc hW.size (.cells brd0.toArray 138)
    go_wp2
    refine ThenGo.to ⟨⟨⟨_,hW⟩,rfl⟩,?_⟩;generalize w8.alloc (.cells brd0.toArray 138)=Z8 at Bz hW⊢;refine ona 9 0 rfl (by kernel_rfl) ?_;refine z0A (by kernel_rfl) 138 _ _ rfl _ (brdC has (s ba d.length bk) [] [d0,d1,d2]).toArray rfl rfl 138 _ Bz D an ao ?_;refine ThenGo.to ⟨⟨⟨_,z0o hW M _⟩,rfl⟩,?_⟩;refine z0h (by kernel_rfl) ?_;refine⟨rfl,_,⟨w8.heap.size,rfl,M,Bz.row _,z0o hW M _⟩,?_⟩;simp only[z1Q,Vb,pgE,pjE];try rfl
   ·refine z1P 8 _ rfl ?_;have Bz:=Va wd 138 brd0.toArray;have M:w1.heap.size≤wd.heap.size:=hW.size;replace hW:=hW.alloc hW.size (.cells brd0.toArray 138)
    go_wp2
    refine ThenGo.to ⟨⟨⟨_,hW⟩,rfl⟩,?_⟩;generalize wd.alloc (.cells brd0.toArray 138)=Z8 at Bz hW⊢;refine cla 6 (some 20) 127 #[s (some ⟨db,O,none⟩) 3 dk] 2 (by kernel_rfl) ?_;refine(aA db O dk _ (ai.below hW) rfl).mono ?_;rintro e w8 ⟨rfl,A⟩;replace hW:=hW.trans (A.mono hW.size);replace Bz:=Bz.below A;clear A;refine⟨_,rfl,⟨⟨_,hW⟩,rfl⟩,?_⟩;simp only[Vb,pgE,pjE];refine qta 7 (some 21) (.agg (brdC has (s ba d.length bk) [] [d0,d1,d2]).toArray) 1 (by kernel_rfl) (fun u _=>by kernel_rfl) ⟨⟨_,hW⟩,rfl⟩ ?_;simp only[Vb,pgE,pjE];refine ona 9 0 rfl (by kernel_rfl) ?_;refine z0A (by kernel_rfl) 138 _ _ rfl _ (brdC has (s ba d.length bk) [] [d0,d1,d2]).toArray rfl rfl 138 _ Bz D an ao ?_;refine ThenGo.to ⟨⟨⟨_,z0o hW M _⟩,rfl⟩,?_⟩;refine z0h (by kernel_rfl) ?_;refine⟨rfl,_,⟨wd.heap.size,rfl,M,Bz.row _,z0o hW M _⟩,?_⟩;simp only[z1Q,Vb,pgE,pjE];try rfl
  rintro vs X ⟨g,rfl,hg,Bg,hX⟩;simp only[z1Q,Vb,pjE];have ah:Below w.heap.size w X:=hB.trans (hX.mono hB.size);have aF:=Rb.below hX;have aV:=Bx.below hX;have bp:w.heap.size+1<g:=by omega
  have bl:=hR.below ah;have bj:=hG.below ah;have p2:=aV.cell 2 _ rfl;clear hX hB Rb Bx aA ai
  go_wp2
  clear p2;generalize aO:c.map l=rs at*;have ae:=q4D hF;have L:rs.length=c.length:=by rw[←aO,List.length_map]
  go_loopw[25] (fun j wr=>∃k:Nat,k≤c.length∧j=H K k∧Hid (Blk wr g 138 (brdC has (s ba d.length bk) (rs.take k) [d0,d1,d2]).toArray)∧Hid (Out [g] X wr)) (fun j _=>c.length-(intOf j).toNat)
  case atStart=>exact⟨0,Nat.zero_le _,rfl,Bg,Out.refl _ _⟩
  case round=>
   obtain⟨k,hk,rfl,HB,HO⟩:=hrel;have y:Below w.heap.size w wr:=Out.keep ah HO.out ah.size (fun k hk=>by simp only[f]at hk;omega);by_cases J:k<c.length
   ·obtain⟨rb,ro,bc,bn,hc,bd⟩:=(hR.below y).cell (by decide) k J;have av:∀j x,(roundK.cells c[k])[j]?=some x→wr.cell? ⟨rb,ro+k*2+j,none⟩=some x:=hc;have r0:=av 0 (c[k].vr) rfl;have r1:=av 1 (c[k].vp) rfl;have ar:rs.getD k z0I=l c[k]:=by rw[←aO];exact z1u c k J
    obtain⟨ab,ad⟩:=z1Z hF k (by rw[L];exact J);rw[ar]at ab ad;replace ab:vf c[k].rep 1=0:=ab;replace ad:vf c[k].pro 2=0:=ad;have aK:rs[k]'(by rw[L];exact J)=l c[k]:=by rw[←ar];simp[List.getD,show k<rs.length by rw[L];exact J]
    have aE:Hid (rs.take (k+1)=rs.take k++[RoundE.mk c[k].rep c[k].pro]):=by
     rw[List.take_succ_eq_append_getElem (show k<rs.length by rw[L];exact J),aK];exact(rfl:_=_)
    have aN:roundK.rd w c[k]:=by
     obtain⟨_,_,_,_,_,hx⟩:=hR.cell (by decide) k J;exact hx
    obtain⟨aG,aH⟩:intK.At w c[k].vr c[k].rep∧intK.At w c[k].vp c[k].pro:=aN;clear hc av ar aK bd;generalize c[k].vr=qv at*;generalize c[k].rep=qr at*;generalize c[k].vp=qw at*;generalize c[k].pro=qp at*;obtain⟨xa,xc,xb,xo,rfl,be,_,aT⟩:=z3U aG ab 0 (by omega);obtain⟨ya,yc,yb,yo,rfl,bf,_,aU⟩:=z3U aH ad 0 (by omega);subst bc be bf;obtain⟨x0,x1,x2,rfl⟩:=z7Z (z07 ab);obtain⟨y0,y1,y2,rfl⟩:=z7Z (z07 ad);have By:=Va wr 171 #[s (some ⟨xb,xo,none⟩) 3 xc,s (some ⟨yb,yo,none⟩) 3 yc];have ak:Below wr.heap.size wr (wr.alloc (.cells #[s (some ⟨xb,xo,none⟩) 3 xc,s (some ⟨yb,yo,none⟩) 3 yc] 171)):=by go_grown
    have aD:Hid (Out [g] X (wr.alloc (.cells #[s (some ⟨xb,xo,none⟩) 3 xc,s (some ⟨yb,yo,none⟩) 3 yc] 171))):=HO.out.call ak;have aC:Hid (Blk (wr.alloc (.cells #[s (some ⟨xb,xo,none⟩) 3 xc,s (some ⟨yb,yo,none⟩) 3 yc] 171)) g 138 (brdC has (s ba d.length bk) (rs.take k) [d0,d1,d2]).toArray):=HB.out.below ak;have bq:g<wr.heap.size:=HB.out.lt;have aQ:wr.heap.size≠g:=by omega
    replace y:=y.trans (ak.mono y.size);rw[Nat.add_zero]at r0;clear HB HO ak aG aH
    go_wp2_with fail
    clear r0 r1;generalize wr.alloc (.cells #[s (some ⟨xb,xo,none⟩) 3 xc,s (some ⟨yb,yo,none⟩) 3 yc] 171)=Y at*;have I:∀W',Out [g] Y W'→Below w.heap.size w W':=fun W' aZ=>Out.keep y aZ y.size (fun k hk=>by simp only[f]at hk;omega)
    have am:=fun w' aY=>z4M g 138 (rs.take k) ([.bool has,s ba d.length bk]++[d0,d1,d2].map iv) ⟨[x0,x1,x2],[y0,y1,y2]⟩ w' aY (q3T ae k) ⟨rfl,rfl⟩ (by rw[List.length_take];omega)
    have aM:Nonempty (LatO [g] Y):=⟨⟨Y,Out.refl _ _⟩⟩
    have hW:Out [g] Y Y.drew:=Out.of_below ((Below.refl _ _).drew);have p0:=z0l (F:=[g]) (By.cell 0 _ rfl) (by simp only[f];exact aQ);have p1:=z0l (F:=[g]) (By.cell 1 _ rfl) (by simp only[f];exact aQ);have N:=aC.out.below (w':=Y.drew) ((Below.refl _ _).drew);refine z0d (S:=fun w'=>∃u:LatO [g] Y,w'=u.val) (by kernel_rfl) ?_;refine sgr [(0,3),(4,2)] 4 (by kernel_rfl) ⟨⟨_,hW⟩,rfl⟩ ?_;simp only[pkE];repeat go_big_quiet_step (fail)
    refine wpQuiet_nil ?_;refine cla 3 (some 32) 127 #[s (some ⟨xb,xo,none⟩) 3 xc] 3 (by kernel_rfl) ?_;refine(aa _ xb xo xc _ (aT.below (I _ hW)) rfl).mono ?_;rintro e w8 ⟨rfl,A⟩;replace hW:=hW.call A;replace N:=N.below A;clear A;refine⟨_,rfl,⟨⟨_,hW⟩,rfl⟩,?_⟩;simp only[Vb,pjE];refine cla 6 (some 35) 127 #[s (some ⟨yb,yo,none⟩) 3 yc] 2 (by kernel_rfl) ?_;refine(aa _ yb yo yc _ (aU.below (I _ hW)) rfl).mono ?_;rintro e w9 ⟨rfl,au⟩;replace hW:=hW.call au;replace N:=N.below au;clear au;refine⟨_,rfl,⟨⟨_,hW⟩,rfl⟩,?_⟩;simp only[Vb,pjE];refine qta 7 (some 36) (.agg (z1e ⟨[x0,x1,x2],[y0,y1,y2]⟩).toArray) 1 (by kernel_rfl) (fun u _=>by kernel_rfl) ⟨⟨_,hW⟩,rfl⟩ ?_;simp only[Vb,pjE];refine cla 8 (some 37) 128 #[.pointer (some ⟨g,0,none⟩),.agg (z1e ⟨[x0,x1,x2],[y0,y1,y2]⟩).toArray] 0 (by kernel_rfl) ?_;refine(am w9 N).mono ?_;rintro e aS ⟨rfl,al,aR⟩;replace hW:=hW.trans aR;clear aR;refine⟨_,rfl,⟨⟨_,hW⟩,rfl⟩,?_⟩;simp only[Vb,pjE];refine z0h (by kernel_rfl) ?_;have aW:Hid (Blk aS g 138 (brdC has (s ba d.length bk) (rs.take (k+1)) [d0,d1,d2]).toArray):=by rw[aE.out];exact al
    have aX:Hid (Out [g] X aS):=aD.out.trans hW;clear al hW am aC aD p0 p1 aM I aE
    go_wp2
    go_roundw
    case rel=>exact⟨k+1,by omega,by go_num,aW.out,aX.out⟩
    case measure=>simp[intOf];omega
   ·have a7:k=c.length:=by omega
    subst a7;have Bw:=HB.out;rw[←L,List.take_length]at Bw;have Rw:Blk wr (w.heap.size+1) 138 brd0.toArray:=(HO.out.block _ aF.lt (by simp only[f];omega)).trans aF;have U:=z3A (has:=has) (vb:=s ba d.length bk) (dec:=[d0,d1,d2]) ae (by rw[L];exact h4) rfl;have aL:=z9z has (s ba d.length bk) rs [d0,d1,d2] wr (hG.below y) ae (by rw[L];exact h4) rfl;have E:=rng Bw (brdC has (s ba d.length bk) rs [d0,d1,d2]) (o:=0) (fun j v hv=>by rw[Nat.zero_add,List.getElem?_toArray];exact hv);have D:(i.info? 138).map (·.size)=some (brdC has (s ba d.length bk) rs [d0,d1,d2]).length:=by rw[U];exact z3T
    have ay:(brdC has (s ba d.length bk) rs [d0,d1,d2]).toArray.all (·.oneCell')=true:=all_oneCell_toArray (fun v hv=>by
     simp only[brdC,rndC,z4k,List.mem_append,List.mem_cons,List.mem_flatMap,List.mem_replicate,List.mem_map,z1e,List.not_mem_nil,or_false]at hv;rcases hv with (rfl | ⟨r,_,z,_,rfl⟩ | ⟨_,rfl⟩) | (rfl | rfl) | ⟨z,_,rfl⟩ <;> rfl)
    clear HB HO aa;generalize bm:((List.range rs.length).all (q1K has rs) && z6f rs [d0,d1,d2])=XX at*;generalize bo:brdC has (s ba d.length bk) rs [d0,d1,d2]=cs at*
    go_wp2_with (refine z7j (by kernel_rfl) 138 _ rfl _ _ rfl cs _ E Tryz.underlying138 rfl D ?_)
    refine aL.mono ?_;rintro e w5 ⟨rfl,T⟩;replace Rw:=Rw.below T;replace Bw:=Bw.below T;replace y:=y.trans (T.mono y.size);replace E:=z2L E T;clear aL T
    cases XX with
    |false=>
     have E1:Hid (C=10):=by rw[ag.out];exact(rfl:_=_)
     have E2:Hid (BD=brd0):=by
      have:=af.out;rw[E1.out,if_neg (by decide)]at this;exact this.symm
     clear ag af E
     go_wp2_with (refine z0A (by kernel_rfl) 138 _ _ rfl _ #[H K 0,H K 0,H K 0,H K 0,H K 0,H K 0,H K 0,H K 0,H K 0,H K 0,H K 0,H K 0,H K 0,H K 0,H K 0,H K 0,H K 0,H K 0,H K 0,H K 0,H K 0,H K 0,H K 0,H K 0,H K 0,.bool false,s none 0 0,H K 0,H K 0,H K 0] rfl rfl 138 _ Rw ap V Z ?_)
     rw[E2.out,E1.out];exact bodyPost_ret (v:=.tuple #[.agg brd0.toArray,H K 10]) (z3C results80 _ _ (w.heap.size+1) brd0.toArray _ rfl rfl (q2s (Rw.row _) rfl)) rfl ⟨rfl,z0o y (by omega) _⟩
    |true=>
     have E1:Hid (C=0):=by rw[ag.out];exact(rfl:_=_)
     have E2:Hid (BD=cs):=by
      have:=af.out;rw[E1.out,if_pos rfl]at this;exact this.symm
     have aP:(i.info? 138).map (·.size)=some cs.toArray.size:=D;have ax:brd0.toArray.size=cs.toArray.size:=(show 30=cs.length from U.symm)
     clear ag af
     go_wp2_with (first|(refine z7j (by kernel_rfl) 138 _ rfl _ _ rfl cs _ E Tryz.underlying138 rfl D ?_)|(refine z0A (by kernel_rfl) 138 _ _ rfl _ cs.toArray rfl rfl 138 _ Rw aP ax ay ?_))
     rw[E2.out,E1.out];exact bodyPost_ret (v:=.tuple #[.agg cs.toArray,H K 0]) (z3C results80 _ _ (w.heap.size+1) cs.toArray _ rfl rfl (q2s (Rw.row _) U)) rfl ⟨rfl,z0o y (by omega) _⟩
 ·have hC:C≠0∧C=shpF (InstQ.e ⟨has,s ba d.length bk,d,s va c.length vk,c,s da dec.length dk,dec⟩):=by
   have:=HC.out.1;unfold insF at this;rw[if_neg h0]at this;exact⟨by rw[←this];exact h0,this.symm⟩
  have E2:Hid (BD=brd0):=by
   have:=HC.out.2;rw[if_neg hC.1]at this;exact this.symm
  rw[←hC.2];have bi:(C !=0)=true:=by simpa using hC.1
  clear HC h0 hC hR hT hD
  go_wp2_with (refine z0A (by kernel_rfl) 138 _ _ rfl _ #[H K 0,H K 0,H K 0,H K 0,H K 0,H K 0,H K 0,H K 0,H K 0,H K 0,H K 0,H K 0,H K 0,H K 0,H K 0,H K 0,H K 0,H K 0,H K 0,H K 0,H K 0,H K 0,H K 0,H K 0,H K 0,.bool false,s none 0 0,H K 0,H K 0,H K 0] rfl rfl 138 _ Rb ap V Z ?_)
  rw[E2.out];exact bodyPost_ret (v:=.tuple #[.agg brd0.toArray,H K C]) (z3C results80 _ _ (w.heap.size+1) brd0.toArray _ rfl rfl (q2s (Rb.row _) rfl)) rfl ⟨rfl,z0o hB (by omega) _⟩
end Go.Proofs.YtjjoahhnkpjolaaGreatDoor

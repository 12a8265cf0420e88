import Derived.Test.YtlkpdgjnhkjpjaaGreatDoorSUAJ
set_option linter.unusedVariables false
set_option linter.unusedSimpArgs false
set_option maxRecDepth 100000
set_option maxHeartbeats 4000000
namespace Go.Proofs.YtlkpdgjnhkjpjaaGreatDoor
open Go.RowKit Go.BigFrame
open List renaming mem_singleton->f,length_append->Va
open IntKind renaming i64->K
open Value renaming int->H,slice->i
open Go.Proofs.Tryz renaming prog->s
open Go.Proofs.Tryz
section
variable {ops:Array Oper} {rest:List Oper} {op:Oper} {a:Act} {w:World} {Q:Exit→Act→World→Prop}
theorem z0s(hw:Region.wanted op (yielded ops a.tmps)=true)(ty:TypeId)(x y:Operand)(ho:op.op=.store ty x y)
  (g:Nat) (c:Array Value) (hx:a.eval x=.pointer (some ⟨g,0,none⟩)) (hy:a.eval y=.agg c)
  (t:TypeId) (d:Array Value) (hg:w.heap[g]?=some (.cells d t (0,0))) (hi:(s.info? ty).map (·.size)=some c.size)
  (z:d.size=c.size) (h1:c.all (·.oneCell')=true)
  (h:wpList s ops Q rest (a.put op.dst undef) (w.setRow g c)):wpList s ops Q (op::rest) a w:=by
 simp only[wpList];rw[if_pos hw];exact Or.inl (wp_store_row ty x y ho g c hx hy t d hg hi z h1 h)
end
theorem Blk.row{w:World}{b:Nat}{t:TypeId}{old:Array Value}(h:Blk w b t old)(cs:Array Value):Blk (w.setRow b cs) b t cs:=setRow_heap w b old cs t _ h
theorem z0j{B:Nat}{a w:World}(h:Below B a w){g:Nat}(hg:B≤g)(cs:Array Value):Below B a (w.setRow g cs):=
 ⟨h.os,h.tape,h.output,by rw[setRow_size];exact h.size,fun k hk=>(setRow_other w g k cs (by omega)).trans (h.block k hk)⟩
theorem q4A(zs:List Int):(zs.map iv).toArray.all (·.oneCell')=true:=all_oneCell_toArray (fun v hv=>by obtain⟨z,_,rfl⟩:=List.mem_map.1 hv;rfl)
theorem q2j{q:RoundE}(h:q.rep.length=3∧q.pro.length=3):∀j v,(q.pro.map iv)[j]?=some v→(z1F q)[3+j]?=some v:=by
 intro j v hv;obtain⟨hj,rfl⟩:=row_get h.2 hv;exact q0f h j hj
theorem z8o(rs:List RoundE)(v:Int)(w:World)(h:Wel rs)(h4:rs.length≤4):
  Calls s 277 #[.agg (rndC rs).toArray,H K v] w fun e w'=>e=.returned (.bool (agr rs v))∧Below w.heap.size w w':=by
 have B:=Blk.new w 259 (rndC rs).toArray;have z:Below w.heap.size w (w.alloc (.cells (rndC rs).toArray 259)):=by go_grown
 have hc:=q19 rs;have ad:(rs.length:Int)≤4:=by omega
 generalize hE:agr rs v=E;have HE:Hid (E=agr rs v):=hE.symm;clear hE;have T:Hid (∀r,r<rs.length→∀j v,(z1F (rs.getD r z0H))[j]?=some v→(rndC rs)[1+r*6+j]?=some v):=fun r hr j v hv=>by
  have hj:=(List.getElem?_eq_some_iff.1 hv).1;rw[z09 (z3K h r hr)]at hj;rw[q2a h r hr j hj];exact hv
 generalize rndC rs=ds at*;go_enter func277,ntmps277
 go_wp2
 clear hc;generalize w.alloc (.cells ds.toArray 259)=W at*;go_loopw[12] (fun j wr=>∃k:Nat,k≤rs.length∧j=H K k∧Hid (∀j,j<k→cnt 7 (rs.getD j z0H).pro v<2)∧Below W.heap.size W wr) (fun j _=>rs.length-(intOf j).toNat)
 case atStart=>exact⟨0,Nat.zero_le _,rfl,fun j hj=>absurd hj (Nat.not_lt_zero _),Below.refl _ _⟩
 case round=>
  obtain⟨k,hk,rfl,HA,hb⟩:=hrel;by_cases N:k<rs.length
  ·have c:=z3K h k N;have HY:Hid (2≤cnt 7 (rs.getD k z0H).pro v→E=true):=fun hx=>by rw[HE.out];exact q4z N hx
   have HN:Hid (cnt 7 (rs.getD k z0H).pro v<2→∀j,j<k+1→cnt 7 (rs.getD j z0H).pro v<2):=fun hx j hj=>by
    by_cases aa:j=k
    ·subst aa;exact hx
    ·exact HA.out j (by omega)
   have I:=rng (B.below hb) (z1F (rs.getD k z0H)) (o:=1+k*6) (fun j v hv=>by rw[List.getElem?_toArray];exact T.out k N j v hv);clear HA;generalize rs.getD k z0H=q at*;have x:(s.info? 256).map (·.size)=some (z1F q).length:=by rw[z09 c];exact q2c
   have y:(s.info? 256).map (·.size)=some (z1F q).toArray.size:=x;have M:=Blk.new wr 256 #[H K 0,H K 0,H K 0,H K 0,H K 0,H K 0];have U:=M.row (z1F q).toArray;have d:Below W.heap.size W ((wr.alloc (.cells #[H K 0,H K 0,H K 0,H K 0,H K 0,H K 0] 256)).setRow wr.heap.size (z1F q).toArray):=z0j (hb.alloc hb.size _) hb.size _;have J:=rng U (q.pro.map iv) (o:=3) (fun j v hv=>by rw[List.getElem?_toArray];exact q2j c j v hv);have L:(s.info? 254).map (·.size)=some (q.pro.map iv).length:=by rw[List.length_map,c.2];exact z6y
   have A:(#[H K 0,H K 0,H K 0,H K 0,H K 0,H K 0]:Array Value).size=(z1F q).toArray.size:=(show 6=(z1F q).length by rw[z09 c])
   have D:(z1F q).toArray.all (·.oneCell')=true:=q4A _;have Y:=z40 q.pro
   go_wp2_with (first|(refine q02 (by kernel_rfl) 256 _ rfl _ _ rfl (z1F q) _ I Tryz.underlying256 rfl x ?_)|(refine z0s (by kernel_rfl) 256 _ _ rfl _ (z1F q).toArray rfl rfl 256 _ M y A D ?_)|(refine q02 (by kernel_rfl) 254 _ rfl _ _ rfl (q.pro.map iv) _ J Tryz.underlying254 rfl L ?_))
   clear I J x y L A D M U;generalize (wr.alloc (.cells #[H K 0,H K 0,H K 0,H K 0,H K 0,H K 0] 256)).setRow wr.heap.size (z1F q).toArray=W3 at*;refine(Y W3 c.2).mono ?_;rintro e w4 ⟨la,lc,rfl,lO,lG,lR,V⟩;replace d:=d.trans (V.mono d.size);have Z:=z1V la lc q.pro v w4 lR c.2;have X:=q55 q.pro v;have O:=z2e (vot q.pro v) w4 X;rw[q5d]at O;generalize vot q.pro v=m at*;generalize cnt 7 q.pro v=C at*;clear Y lO lG lR V hb X
   go_wp2_with fail
   refine Z.mono ?_;rintro e w' ⟨rfl,hw⟩;replace hw:=hw.symm;subst hw
   go_wp2_with fail
   refine O.mono ?_;rintro e w' ⟨rfl,hw⟩;replace hw:=hw.symm;subst hw;clear Z O;by_cases hC:2≤C
   ·have E2:Hid (E=true):=HY.out hC;clear HY HN HE T
    go_wp2
    go_ret;exact⟨by rw[E2.out];rfl,z.trans (d.mono z.size)⟩
   ·have R:=HN.out (by omega);have HR:Hid _:=R;clear HY HN R
    go_wp2
    go_roundw
    case rel=>exact⟨k+1,by omega,by go_num,HR.out,d⟩
    case measure=>simp[intOf];omega
  ·have ab:k=rs.length:=by omega
   subst ab;have E2:Hid (E=false):=by rw[HE.out];exact q0k HA.out
   clear HA HE
   go_wp2
   go_ret;exact⟨by rw[E2.out];rfl,z.trans (hb.mono z.size)⟩
theorem q2k{has:Bool}{rs:List RoundE}{r n:Nat}(hr:r<rs.length)(hn:n<3)(h:repI has rs r n=false∨proR rs r n=false):(List.range rs.length).all (q1C has rs)=false:=by
 rw[List.all_eq_false];refine⟨r,List.mem_range.2 hr,?_⟩;intro e;have:=(z7b has rs r).1 e n hn;rcases h with h|h
 ·rw[this.1]at h;exact absurd h (by decide)
 ·rw[this.2]at h;exact absurd h (by decide)
theorem q5h{rs:List RoundE}{dec:List Int}{n:Nat}(hn:n<3)(h:endR rs (dec.getD n 0)=false):z55 rs dec=false:=by
 cases he:z55 rs dec with
 |false=>rfl
 |true=>
  rw[(z2R rs dec).1 he n hn]at h;exact absurd h (by decide)
theorem z2F{w w':World}{b o:Nat}{L:List Value}(h:w.rangeAt b o L)(hb:Below w.heap.size w w'):w'.rangeAt b o L:=fun j v hv=>by
 have h1:=h j v hv;rw[hb.cell (p:=⟨b,o+j,none⟩) (World.block_lt_of_cell? w _ h1)];exact h1
theorem idx0(x y z:Int)(w:World):(Instr.index 254 (.agg #[H K x,H K y,H K z]) (H K 0)).run s w=.ok (H K x) w:=by kernel_rfl
theorem idx1(x y z:Int)(w:World):(Instr.index 254 (.agg #[H K x,H K y,H K z]) (H K 1)).run s w=.ok (H K y) w:=by kernel_rfl
theorem idx2(x y z:Int)(w:World):(Instr.index 254 (.agg #[H K x,H K y,H K z]) (H K 2)).run s w=.ok (H K z) w:=by kernel_rfl
theorem q2l{zs:List Int}(h3:zs.length=3)(m:Nat)(hm:m<3)(w:World):(Instr.index 254 (.agg (zs.map iv).toArray) (H K (m:Int))).run s w=.ok (H K (zs.getD m 0)) w:=by
 obtain⟨x,y,z,rfl⟩:=q0G h3;have:m=0∨m=1∨m=2:=by omega
 rcases this with rfl|rfl|rfl
 ·exact idx0 x y z w
 ·exact idx1 x y z w
 ·exact idx2 x y z w
theorem z9z(has:Bool)(vb:Value)(rs:List RoundE)(dec:List Int)(w:World)(hG:Rul w)(h:Wel rs)(h4:rs.length≤4)(hd:dec.length=3):
  Calls s 241 #[.agg (brdC has vb rs dec).toArray] w fun e w'=>e=.returned (.bool ((List.range rs.length).all (q1C has rs) && z55 rs dec))∧Below w.heap.size w w':=by
 have B:=Blk.new w 261 (brdC has vb rs dec).toArray;have d:Below w.heap.size w (w.alloc (.cells (brdC has vb rs dec).toArray 261)):=by go_grown
 have hc:(brdC has vb rs dec)[0]?=some (iv rs.length):=by rw[z7c h h4 0 (by omega)];rfl
 have V:=rng B (brdC has vb rs dec) (o:=0) (fun j v hv=>by rw[Nat.zero_add,List.getElem?_toArray];exact hv);have J:=z4c h h4 B;have Z:=rng B (dec.map iv) (o:=27) (fun j v hv=>by
  obtain⟨hj,rfl⟩:=row_get hd hv;rw[List.getElem?_toArray];exact q2b h h4 hd j hj)
 have ab:(s.info? 261).map (·.size)=some (brdC has vb rs dec).length:=by rw[z3t h h4 hd];exact z3M
 have L:(s.info? 259).map (·.size)=some (rndC rs).length:=by rw[z0x h h4];exact z3L
 have ad:(s.info? 254).map (·.size)=some (dec.map iv).length:=by rw[List.length_map,hd];exact z6y
 have aa:=fun r n w hG hr hn=>z4d has vb rs dec r n w hG h h4 hd hr hn
 have U:=fun r n w hG hr hn=>z5s rs r n w hG h h4 hr hn
 have af:=fun v w=>z8o rs v w h h4
 generalize hE:((List.range rs.length).all (q1C has rs) && z55 rs dec)=E;have HE:Hid (E=((List.range rs.length).all (q1C has rs) && z55 rs dec)):=hE.symm;clear hE h B;generalize brdC has vb rs dec=cs at*;generalize rndC rs=ds at*;go_enter func241,ntmps241
 go_wp2
 clear hc;generalize w.alloc (.cells cs.toArray 261)=W at*;replace hG:=hG.below d;go_loopw[10] (fun j wr=>∃k:Nat,k≤rs.length∧j=H K k∧Hid (∀j,j<k→q1C has rs j=true)∧Below W.heap.size W wr) (fun j _=>rs.length-(intOf j).toNat)
 case atStart=>exact⟨0,Nat.zero_le _,rfl,fun j hj=>absurd hj (Nat.not_lt_zero _),Below.refl _ _⟩
 case round=>
  obtain⟨k,hk,rfl,HA,hb⟩:=hrel;by_cases I:k<rs.length
  ·go_wp2
   go_loopw[13] (fun j wx=>∃m:Nat,m≤3∧j=H K m∧Hid (∀j,j<m→repI has rs k j=true∧proR rs k j=true)∧Below W.heap.size W wx) (fun j _=>3-(intOf j).toNat)
   case atStart=>exact⟨0,Nat.zero_le _,rfl,fun j hj=>absurd hj (Nat.not_lt_zero _),hb⟩
   case round=>
    obtain⟨m,hm,rfl,HB,c⟩:=hrel;by_cases y:m<3
    ·have T:(m:Int)<3:=by omega
     have HX:Hid (repI has rs k m=false→E=false):=fun hx=>by rw[HE.out,q2k I y (Or.inl hx)];rfl
     have HY:Hid (proR rs k m=false→E=false):=fun hx=>by rw[HE.out,q2k I y (Or.inr hx)];rfl
     have HN:Hid (repI has rs k m=true→proR rs k m=true→∀j,j<m+1→repI has rs k j=true∧proR rs k j=true):=fun h1 h2 j hj=>by
      by_cases M:j=m
      ·subst M;exact⟨h1,h2⟩
      ·exact HB.out j (by omega)
     have h1:=aa k m _ (hG.below c) I y;have h2:=fun w hG=>U k m w hG I y
     have A:=z2F V c;clear HB;generalize repI has rs k m=X at*;generalize proR rs k m=Y at*
     go_wp2_with (refine q02 (by kernel_rfl) 261 _ rfl _ _ rfl cs _ A Tryz.underlying261 rfl ab ?_)
     clear A;refine h1.mono ?_;rintro e w5 ⟨rfl,O⟩;replace c:=c.trans (O.mono c.size);clear h1 O
     cases X with
     |false=>
      have E2:Hid (E=false):=HX.out rfl;clear HX HY HN HE HA
      go_wp2
      go_ret;exact⟨by rw[E2.out];rfl,d.trans (c.mono d.size)⟩
     |true=>
      have C:=z2F J c;have h3:=h2 w5 (hG.below c)
      go_wp2_with (refine q02 (by kernel_rfl) 259 _ rfl _ _ rfl ds _ C Tryz.underlying259 rfl L ?_)
      clear C h2;refine h3.mono ?_;rintro e w6 ⟨rfl,z⟩;replace c:=c.trans (z.mono c.size);clear h3 z
      cases Y with
      |false=>
       have E2:Hid (E=false):=HY.out rfl;clear HX HY HN HE HA
       go_wp2
       go_ret;exact⟨by rw[E2.out];rfl,d.trans (c.mono d.size)⟩
      |true=>
       have R:=HN.out (by first|rfl|trivial) (by first|rfl|trivial);have HR:Hid _:=R;clear HX HY HN R
       go_wp2
       go_roundw
       case rel=>exact⟨m+1,by omega,by go_num,HR.out,c⟩
       case measure=>simp[intOf];omega
    ·have N:m=3:=by omega
     subst N;have HR:Hid (∀j,j<k+1→q1C has rs j=true):=fun j hj=>by
      by_cases ag:j=k
      ·subst ag;exact(z7b has rs j).2 HB.out
      ·exact HA.out j (by omega)
     clear HA HB
     go_wp2
     go_roundw
     case rel=>exact⟨k+1,by omega,by go_num,HR.out,c⟩
     case measure=>simp[intOf];omega
  ·have ah:k=rs.length:=by omega
   subst ah;have D:Hid (E=z55 rs dec):=show _=_ by
    have e:(List.range rs.length).all (q1C has rs)=true:=by
     rw[List.all_eq_true];intro x hx;exact HA.out x (List.mem_range.1 hx)
    rw[HE.out,e,Bool.true_and]
   clear HA HE aa U;have A:=z2F Z hb
   go_wp2_with (refine q02 (by kernel_rfl) 254 _ rfl _ _ rfl (dec.map iv) _ A Tryz.underlying254 rfl ad ?_)
   clear A;go_loopw[33] (fun j wx=>∃m:Nat,m≤3∧j=H K m∧Hid (∀j,j<m→endR rs (dec.getD j 0)=true)∧Below W.heap.size W wx) (fun j _=>3-(intOf j).toNat)
   case atStart=>exact⟨0,Nat.zero_le _,rfl,fun j hj=>absurd hj (Nat.not_lt_zero _),hb⟩
   case round=>
    obtain⟨m,hm,rfl,HB,c⟩:=hrel;by_cases y:m<3
    ·have T:(m:Int)<3:=by omega
     have HY:Hid (endR rs (dec.getD m 0)=false→E=false):=fun hx=>by rw[D.out,q5h y hx]
     have HN:Hid (endR rs (dec.getD m 0)=true→∀j,j<m+1→endR rs (dec.getD j 0)=true):=fun hx j hj=>by
      by_cases M:j=m
      ·subst M;exact hx
      ·exact HB.out j (by omega)
     have HV:Hid (endR rs (dec.getD m 0)=((dec.getD m 0==3)||agr rs (dec.getD m 0))):=(rfl:_=_)
     have aj:=fun w=>q2l hd m y w
     have h1:=af (dec.getD m 0);have C:=z2F J c;clear HB;generalize dec.getD m 0=v at*;by_cases hv:v=3
     ·have ai:(v !=3)=false:=by simp[hv]
      have R:=HN.out (by rw[HV.out,hv];rfl);have HR:Hid _:=R;clear HY HN HV R hv
      go_wp2
      go_roundw
      case rel=>exact⟨m+1,by omega,by go_num,HR.out,c⟩
      case measure=>simp[intOf];omega
     ·have ai:(v !=3)=true:=by simpa using hv
      have ae:(v==3)=false:=by simpa using hv
      rw[ae,Bool.false_or]at HV;rw[HV.out]at HY HN;generalize agr rs v=X at*;clear HV hv ae;have h3:=h1 wr
      go_wp2_with (refine q02 (by kernel_rfl) 259 _ rfl _ _ rfl ds _ C Tryz.underlying259 rfl L ?_)
      clear C h1;refine h3.mono ?_;rintro e w6 ⟨rfl,z⟩;replace c:=c.trans (z.mono c.size);clear h3 z
      cases X with
      |false=>
       have E2:Hid (E=false):=HY.out rfl;clear HY HN D
       go_wp2
       go_ret;exact⟨by rw[E2.out];rfl,d.trans (c.mono d.size)⟩
      |true=>
       have R:=HN.out (by first|rfl|trivial);have HR:Hid _:=R;clear HY HN R
       go_wp2
       go_roundw
       case rel=>exact⟨m+1,by omega,by go_num,HR.out,c⟩
       case measure=>simp[intOf];omega
    ·have N:m=3:=by omega
     subst N;have E2:Hid (E=true):=by rw[D.out,(z2R rs dec).2 HB.out];rfl
     clear HB D
     go_wp2
     go_ret;exact⟨by rw[E2.out];rfl,d.trans (c.mono d.size)⟩
theorem q2m(w:World)(ty g:Nat)(cur:Array Value)(b off sc:Nat)(zs:List Int)(hz:zs.length=3)(hg:w.heap[g]?=some (.cells cur 254 (0,0)))(hc:cur.size=3)(hr:Row .i64 w (some ⟨b,off,none⟩) zs):
  (Builtin.copy_ #[115,115] ty #[i (some ⟨g,0,none⟩) 3 3,i (some ⟨b,off,none⟩) 3 sc]).run s w=.ok (goInt 3) (w.setRow g (zs.map iv).toArray):=by
 obtain⟨i0,hi,hz0,hz1,hz2⟩:=info_parts q4w;have hlen:(zs.map iv).length=3:=by simp[hz]
 have hl:=run_loadCells_list (P:=s) w ⟨b,off,none⟩ (zs.map iv) (z3I (z5k hr));have hst:=run_storeCells_at s g 0 254 (zs.map iv) 0 cur w hg (by omega) (fun v hv=>by obtain⟨z,_,rfl⟩:=List.mem_map.1 hv;rfl);have e:cur.toList.drop (zs.map iv).length=[]:=List.drop_of_length_le (by simp;omega);simp only[Nat.zero_add,Nat.add_zero,List.take_zero,List.nil_append,e,List.append_nil]at hst;rw[hlen]at hl;simp[Builtin.copy_,run_underlying Tryz.underlying115,Builtin.lenOf,Builtin.firstCells,sizeOf,typeInfo,hi,hz1,hl,hst]
theorem z8p(b off cap:Nat)(zs:List Int)(w:World)(h:Row .i64 w (some ⟨b,off,none⟩) zs)(h3:zs.length=3):
  Calls s 239 #[i (some ⟨b,off,none⟩) 3 cap] w fun e w'=>e=.returned (.agg (zs.map iv).toArray)∧Below w.heap.size w w':=by
 have hb0:Below w.heap.size w ((w.alloc (.cells #[H K 0,H K 0,H K 0] 254)).alloc (.cells #[H K 0,H K 0,H K 0] 254)):=by go_grown
 have C:=(Blk.new w 254 #[H K 0,H K 0,H K 0]).below (w':=(w.alloc (.cells #[H K 0,H K 0,H K 0] 254)).alloc (.cells #[H K 0,H K 0,H K 0] 254)) (by go_grown);have D:=Blk.new (w.alloc (.cells #[H K 0,H K 0,H K 0] 254)) 254 #[H K 0,H K 0,H K 0];simp only[World.size_alloc]at D;have hcp0:=fun ty=>q2m _ ty (w.heap.size+1) _ b off cap zs h3 D rfl (h.below hb0)
 obtain⟨x,y,z,rfl⟩:=q0G h3;obtain⟨W2,hcp,D2,C2,hb2⟩:∃W2,(∀ty,(Builtin.copy_ #[115,115] ty #[i (some ⟨w.heap.size+1,0,none⟩) 3 3,i (some ⟨b,off,none⟩) 3 cap]).run s ((w.alloc (.cells #[H K 0,H K 0,H K 0] 254)).alloc (.cells #[H K 0,H K 0,H K 0] 254))=.ok (goInt 3) W2)∧Blk W2 (w.heap.size+1) 254 #[H K x,H K y,H K z]∧Blk W2 w.heap.size 254 #[H K 0,H K 0,H K 0]∧Below w.heap.size w W2:=
  ⟨_,hcp0,D.row _,(setRow_other _ _ _ _ (by omega)).trans C,z0j hb0 (g:=w.heap.size+1) (by omega) _⟩
 obtain⟨p0,p1,p2⟩:=D2.cel3;obtain⟨q0,q1,q2⟩:=C2.cel3;obtain⟨f0,f1,f2⟩:=C2.frz3;clear C D D2 C2 hb0 h hcp0;go_enter func239,ntmps239
 go_wp2
 exact bodyPost_ret (v:=.agg #[H K x,H K y,H K z]) (by simp[results,results239,go_sem,q0,q1,q2]) rfl ⟨rfl,((hb2.setCell (p:=⟨w.heap.size,0,none⟩) (Nat.le_refl _) _).setCell (p:=⟨w.heap.size,1,none⟩) (Nat.le_refl _) _).setCell (p:=⟨w.heap.size,2,none⟩) (Nat.le_refl _) _⟩
theorem z4z(b:Nat)(t:TypeId):∀ (vs:List Value) (o:Nat) (w:World) (cs:List Value),Blk w b t cs.toArray→Blk (w.setCells b o vs) b t (z1n cs o vs).toArray
 |[],_,_,_,h=>h
 |v::r,o,w,cs,h=>by
  have h1:=h.set o v;rw[List.setIfInBounds_toArray]at h1;exact z4z b t r (o+1) _ _ h1
theorem z2G(b:Nat):∀ (vs:List Value) (o:Nat) (w:World),Out [b] w (w.setCells b o vs)
 |[],_,w=>Out.refl _ w
 |v::r,o,w=>(Out.setCell w b o v).trans (z2G b r (o+1) _)
theorem z9A(A B C Y:List Value)(h:B.length=Y.length):z1n (A++(B++C)) A.length Y=A++(Y++C):=by
 apply List.ext_getElem?;intro j;by_cases hj:j<(A++(B++C)).length
 ·rw[z3s _ _ _ _ hj];simp only[Va]at hj;by_cases h1:A.length≤j∧j<A.length+Y.length
  ·rw[if_pos h1,List.getElem?_append_right h1.1,List.getElem?_append_left (by omega)]
  ·rw[if_neg h1];by_cases h2:j<A.length
   ·rw[List.getElem?_append_left h2,List.getElem?_append_left h2]
   ·rw[List.getElem?_append_right (by omega),List.getElem?_append_right (by omega),List.getElem?_append_right (by omega),List.getElem?_append_right (by omega),h]
 ·rw[List.getElem?_eq_none (by rw[z11];omega),List.getElem?_eq_none (by simp only[Va]at hj⊢;omega)]
theorem q06(rs:List RoundE)(q:RoundE):z4b (rs++[q])=z4b rs++z1F q:=by simp[z4b]
theorem q3W{rs:List RoundE}{q:RoundE}(tail:List Value)(h:Wel rs)(hq:q.rep.length=3∧q.pro.length=3)(h4:rs.length<4):
  (z1n (rndC rs++tail) (1+rs.length*6) (z1F q)).set 0 (iv ((rs.length:Int)+1))=rndC (rs++[q])++tail:=by
 have hl:=z2E h;have hq6:=z09 hq;have e1:rndC rs++tail=(iv rs.length::z4b rs)++(List.replicate 6 (iv 0)++(List.replicate (18-6*rs.length) (iv 0)++tail)):=by
  unfold rndC;rw[show 24-6*rs.length=6+(18-6*rs.length) by omega,←List.replicate_append_replicate];simp[List.append_assoc]
 have e2:(iv rs.length::z4b rs).length=1+rs.length*6:=by simp only[List.length_cons,hl];omega
 rw[e1,←e2,z9A _ _ _ _ (by rw[List.length_replicate,hq6])];unfold rndC;rw[q06,Va,List.length_singleton,show 24-6*(rs.length+1)=18-6*rs.length by omega];simp[List.append_assoc]
structure LatR (b g:Nat) (w:World) where
 val:World
 cnt:val.cell? ⟨b,0,none⟩=w.cell? ⟨b,0,none⟩
 box:val.heap[g]?=w.heap[g]?
theorem z8q(b:Nat)(t:TypeId)(rs:List RoundE)(d:List Value)(q:RoundE)(w:World)(hB:Blk w b t (rndC rs++d).toArray)(h:Wel rs)(hq:q.rep.length=3∧q.pro.length=3)(h4:rs.length<4):
  Calls s 240 #[.pointer (some ⟨b,0,none⟩),.agg (z1F q).toArray] w fun e w'=>e=.returned (.tuple #[])∧Blk w' b t (rndC (rs++[q])++d).toArray∧Out [b] w w':=by
 have ae:=hB.lt;have O:Below w.heap.size w (w.alloc (.cells (z1F q).toArray 256)):=by go_grown
 have G:=Blk.new w 256 (z1F q).toArray;replace hB:=hB.below O;have C:(w.alloc (.cells (z1F q).toArray 256)).cell? ⟨b,0,none⟩=some (iv rs.length):=hB.cell 0 _ rfl;have T:(z1F q).toArray.all (·.oneCell')=true:=q4A _;have L:(s.info? 256).map (·.size)=some (z1F q).length:=by rw[z09 hq];exact q2c
 have af:=z0x h (by omega);have A:∀W':World,W'.heap[b]?=(w.alloc (.cells (z1F q).toArray 256)).heap[b]?→W'.there b (1+rs.length*6) (z1F q).toArray.size:=by
  intro W' Z j hj;rw[List.size_toArray,z09 hq]at hj;have N:Blk W' b t (rndC rs++d).toArray:=Z.trans hB;have ab:1+rs.length*6+j<(rndC rs++d).length:=by simp only[Va];omega
  have hx:=List.getElem?_eq_getElem ab;exact⟨by rw[N.cell _ _ (by rw[List.getElem?_toArray];exact hx)];rfl,N.frozen _⟩
 have J:=q3W d h hq h4;have E:Hid ((z1n (rndC rs++d) (1+rs.length*6) (z1F q)).set 0 (iv ((rs.length:Int)+1))=rndC (rs++[q])++d):=J;clear J;generalize rndC (rs++[q])++d=es at*;generalize rndC rs++d=cs at*;have ag:(rs.length:Int)<4:=by omega
 generalize rs.length=c at*;go_enter func240,ntmps240
 go_wp2_with fail
 generalize w.alloc (.cells (z1F q).toArray 256)=W at*;have y:W.drew.cell? ⟨b,0,none⟩=W.cell? ⟨b,0,none⟩:=rfl;have z:W.drew.heap[w.heap.size]?=W.heap[w.heap.size]?:=rfl;have ad:Nonempty (LatR b w.heap.size W):=⟨⟨W,rfl,rfl⟩⟩
 have k0:∀u:LatR b w.heap.size W,u.val.cell? ⟨b,0,none⟩=some (iv c):=fun u=>u.cnt.trans C
 have V:∀u:LatR b w.heap.size W,(Instr.loadAt 256 (.pointer (some ⟨w.heap.size,0,none⟩))).run s u.val=.ok (.agg (z1F q).toArray) u.val:=fun u=>by
  have hG:Blk u.val w.heap.size 256 (z1F q).toArray:=u.box.trans G;exact run_loadAt_mid u.val w.heap.size 0 256 (z1F q) _ (rng hG _ (fun j v hv=>by rw[Nat.zero_add,List.getElem?_toArray];exact hv)) Tryz.underlying256 rfl L
 refine z0a (S:=fun w'=>∃u:LatR b w.heap.size W,w'=u.val) (by kernel_rfl) ?_;refine sgr [(0,2)] 8 (by kernel_rfl) ⟨⟨_,y,z⟩,rfl⟩ ?_;simp only[pkE];repeat go_big_quiet_step (fail)
 refine wpQuiet_nil ?_;refine qta 2 (some 6) (.pointer (some ⟨b,0,none⟩)) 7 (by kernel_rfl) (fun u _=>by kernel_rfl) ⟨⟨_,y,z⟩,rfl⟩ ?_;simp only[Act.put,pjE];refine sgr [(3,2)] 5 (by kernel_rfl) ⟨⟨_,y,z⟩,rfl⟩ ?_;simp only[pkE];repeat go_big_quiet_step (fail)
 refine wpQuiet_nil ?_;refine qta 5 (some 9) (.agg (z1F q).toArray) 4 (by kernel_rfl) (fun u hu=>?_) ⟨⟨_,y,z⟩,rfl⟩ ?_
 ·obtain⟨u,rfl⟩:=hu;show some (((Instr.loadAt 256 (.pointer (some ⟨w.heap.size,0,none⟩)))>>=fun x=>pure (Next.value x):Sem Next).run s u.val)=_;rw[Sem.run_bind,V u];rfl
 simp only[Act.put,pjE];refine qta 6 (some 10) (.pointer (some ⟨b,0,none⟩)) 3 (by kernel_rfl) (fun u _=>by kernel_rfl) ⟨⟨_,y,z⟩,rfl⟩ ?_;simp only[Act.put,pjE];refine sgr [(7,2)] 1 (by kernel_rfl) ⟨⟨_,y,z⟩,rfl⟩ ?_;simp only[pkE];repeat go_big_quiet_step (fail)
 refine wpQuiet_nil ?_;refine ona 9 0 rfl (by kernel_rfl) ?_;refine st_g (by kernel_rfl) 256 _ _ rfl b (1+c*6) (z1F q).toArray rfl rfl (A _ rfl) L T ?_;have D:Blk (W.drew.setCells b (1+c*6) (z1F q)) b t (z1n cs (1+c*6) (z1F q)).toArray:=z4z b t (z1F q) (1+c*6) W.drew cs hB;have U:Out [b] w (W.drew.setCells b (1+c*6) (z1F q)):=(Out.of_below O).trans ((Out.of_below ((Below.refl _ _).drew)).trans (z2G b (z1F q) (1+c*6) W.drew));have aa:w.heap.size≠b:=by omega
 have I:(W.drew.setCells b (1+c*6) (z1F q)).heap[w.heap.size]?=W.heap[w.heap.size]?:=((z2G b (z1F q) (1+c*6) W.drew).block _ G.lt (by simp only[f];exact aa))
 have M:(W.drew.setCells b (1+c*6) (z1F q)).cell? ⟨b,0,none⟩=W.cell? ⟨b,0,none⟩:=World.cell?_setCells_out b (z1F q) (1+c*6) W.drew ⟨b,0,none⟩ (fun _ _=>Or.inl (by show 0<1+c*6;omega));refine ThenGo.to ⟨⟨⟨_,M,I⟩,rfl⟩,?_⟩;refine z0e (by kernel_rfl) ?_;have Y:=M.trans C;have ah:=D.frozen 0;have F:=D.set 0 (iv ((c:Int)+1));rw[List.setIfInBounds_toArray,E.out]at F;have U2:=U.set (b:=b) (j:=0) (u:=iv ((c:Int)+1)) (by simp);have HF:Hid (Blk _ b t es.toArray∧Out [b] w _):=And.intro F U2;clear F U2 D U M I z y k0 V ad A E;generalize W.drew.setCells b (1+c*6) (z1F q)=X at*
 go_wp2
 go_end0
 exact⟨rfl,HF.out⟩
def z1a:Act→List (Option Tmp)→List Value→Act
 |a,d::ds,v::vs=>z1a (a.put d v) ds vs
 |a,_,_=>a
section
variable {P:Program} {ops:Array Oper} {Q:Exit→Act→World→Prop}
theorem z0X{id:Nat}{a:Act}{w:World}(ds:List (Option Tmp))(R:List Value→World→Prop)
  (hreg:(Code.region id ops true).wp P (fun e a' w'=>e=.normal∧∃vs,R vs w'∧a'=z1a a ds vs) a w) (himp:∀vs w',R vs w'→Q .normal (z1a a ds vs) w'):(Code.region id ops true).wp P Q a w:=by
 refine Code.wp_mono ?_ hreg;rintro e a' w' ⟨rfl,vs,hR,rfl⟩;exact himp vs w' hR
end
structure LatO (F:List Nat) (w:World) where
 val:World
 isOut:Out F w val
theorem z8r{F:List Nat}{w:World}{b o:Nat}{v:Value}(h:w.cell? ⟨b,o,none⟩=some v)(hF:b∉F):∀u:LatO F w,u.val.cell? ⟨b,o,none⟩=some v:=fun u=>by
 have hb:=World.block_lt_of_cell? w _ h;have e:=u.isOut.block b hb hF;unfold World.cell? at h⊢;simp only at h⊢;rw[e];exact h
section
open Go.Sort
theorem z4A:∀ (L:List Int),L.Pairwise (· ≤ ·)→(∀j,j+1<L.length→L.getD (j+1) 0≠L.getD j 0)→L.Nodup
 |[],_,_=>List.nodup_nil
 |[a],_,_=>by simp
 |a::b::t,hs,hadj=>by
  rw[List.pairwise_cons]at hs;have hab:a≠b:=fun e=>hadj 0 (by simp) (by simpa using e.symm)
  have ih:=z4A (b::t) hs.2 (fun j hj=>by simpa using hadj (j+1) (by simpa using hj));rw[List.nodup_cons];refine⟨fun hm=>?_,ih⟩;have h1:=hs.1 b (by simp);rcases List.mem_cons.1 hm with h|h
  ·exact hab h
  ·have h2:=(List.pairwise_cons.1 hs.2).1 a h;omega
theorem q52(L:List Int)(j:Nat):L.toArray[j]! =L.getD j 0:=by
 rw[List.getElem!_toArray];by_cases h:j<L.length
 ·rw[getElem!_pos L j h];simp[List.getD,h]
 ·rw[getElem!_neg L j h];simp[List.getD,List.getElem?_eq_none (show L.length≤j by omega)]
theorem z9B(L:List Int)(hs:L.Pairwise (· ≤ ·)):(L.Nodup→(Lib.compact L).length=L.length)∧(¬L.Nodup→(Lib.compact L).length<L.length):=by
 constructor
 ·intro h;rw[Lib.compact_all];intro j hj;unfold Lib.keeps;rw[decide_eq_true_eq,q52,q52];by_cases h0:j=0
  ·exact Or.inl h0
  ·right;intro e;have e1:L.getD j 0=L[j]:=by simp[List.getD,hj]
   have e2:L.getD (j-1) 0=L[j-1]'(by omega):=by simp[List.getD,show j-1<L.length by omega]
   rw[e1,e2]at e;exact List.pairwise_iff_getElem.1 h (j-1) j (by omega) hj (by omega) e.symm
 ·intro h;have hex:∃j,j+1<L.length∧L.getD (j+1) 0=L.getD j 0:=by
   apply Classical.byContradiction;intro hn;exact h (z4A L hs (fun j hj e=>hn ⟨j,hj,e⟩))
  obtain⟨j,hj,e⟩:=hex;unfold Lib.compact Lib.compactUpTo;rw[List.length_map];have:=(List.length_filter_lt_length_iff_exists (p:=Lib.keeps L.toArray) (l:=List.range L.length)).2 ⟨j + 1,List.mem_range.2 hj,by
   unfold Lib.keeps;rw[decide_eq_true_eq,q52,q52];rintro(h|h)
   ·omega
   ·exact h (by simpa using e)⟩
  rwa [List.length_range]at this
theorem q2n{w w':World}{base g n cap q:Nat}{zs ys:List Int}{os:Array Obj}(h:w.ownsRow base 2 1 (i (some ⟨g,0,none⟩) n cap) n (zs.map (Value.int .i64)))(hl:ys.length=n)
  (hw:w'=grow (putRow (Value.int .i64) (Sort.ahead w q) g 0 ys.toArray) os):w'.ownsRow base 2 1 (i (some ⟨g,0,none⟩) n cap) n (ys.map (Value.int .i64))∧Out [g] w w':=by
 rcases h.2 with⟨he,hn⟩|⟨g',cap',cur,he,hb,hh,h1,h2,h3,h4⟩
 ·simp at he
 ·simp only[Value.slice.injEq,Option.some.injEq,Addr.mk.injEq,and_true,true_and]at he;obtain⟨rfl,rfl⟩:=he;have hlt:g<w.heap.size:=(Array.getElem?_eq_some_iff.1 hh).1;have hsz:(putRow (Value.int .i64) (Sort.ahead w q) g 0 ys.toArray).heap.size=w.heap.size:=by simp
  have hblk:∀k,k<w.heap.size→w'.heap[k]?=(putRow (Value.int .i64) (Sort.ahead w q) g 0 ys.toArray).heap[k]?:=fun k hk=>by
   rw[hw];exact Array.getElem?_append_left (by rw[hsz];exact hk)
  have hg:w'.heap[g]?=some (.cells (putCells (Value.int .i64) 0 ys.toArray cur) 2 (0,0)):=by
   rw[hblk g hlt];show(w.heap.modify g _)[g]?=_;rw[Array.getElem?_modify,if_pos rfl,hh];rfl
  have hcs:(putCells (Value.int .i64) 0 ys.toArray cur).size=cur.size:=by simp[putCells]
  refine⟨⟨by simp[hl],Or.inr ⟨g,cap,_,rfl,hb,hg,h1,h2,by rw[hcs];exact h3,?_⟩⟩,?_⟩
  ·apply List.ext_getElem?;intro j;by_cases hj:j<n
   ·rw[List.getElem?_take,if_pos (by omega),Array.getElem?_toList];simp only[putCells,Array.getElem?_mapIdx];rw[Array.getElem?_eq_getElem (by omega),Option.map_some,if_pos ⟨Nat.zero_le _,by rw[List.size_toArray];omega⟩];simp only[Nat.sub_zero];rw[q52,List.getElem?_map,List.getElem?_eq_getElem (by omega)];simp[List.getD,show j<ys.length by omega]
   ·rw[List.getElem?_eq_none (by simp;omega),List.getElem?_eq_none (by simp;omega)]
  ·refine⟨by rw[hw];rfl,by rw[hw];rfl,by rw[hw];rfl,?_,fun k hk hn=>?_⟩
   ·rw[hw];show w.heap.size≤(_++os).size;rw[Array.size_append,hsz];omega
   ·rw[hblk k hk];show(w.heap.modify g _)[k]?=_;rw[Array.getElem?_modify,if_neg (fun e=>hn (by simp[e]))]
theorem z8s{w:World}{base g n cap:Nat}{zs:List Int}(h:w.ownsRow base 2 1 (i (some ⟨g,0,none⟩) n cap) n (zs.map (Value.int .i64))):Holds (Value.int .i64) w g 0 zs.toArray∧g<w.heap.size∧n≤cap:=by
 have hl:zs.length=n:=by have:=h.1;simpa using this
 refine⟨fun j hj=>?_,?_,q0h h⟩
 ·rw[List.size_toArray]at hj;refine⟨?_,h.frozenAt _⟩;rw[Nat.zero_add,h.cellAt j (by omega),q52];simp[List.getD,hj]
 ·exact(h.lt g rfl).2
theorem q2o(g cap base:Nat)(zs:List Int)(w:World)(h:w.ownsRow base 2 1 (i (some ⟨g,0,none⟩) zs.length cap) zs.length (zs.map (Value.int .i64)))(hl:zs.length≤60):
  Calls s 285 #[i (some ⟨g,0,none⟩) zs.length cap] w fun e w'=>e=.returned (.tuple #[])∧∃ys:List Int,ys.Perm zs∧ys.Pairwise (· ≤ ·)∧w'.ownsRow base 2 1 (i (some ⟨g,0,none⟩) zs.length cap) zs.length (ys.map (Value.int .i64))∧Out [g] w w':=by
 obtain⟨hH,hlt,hc⟩:=z8s h;refine(AnyM.slices_Sort_int q1Y g 0 cap zs w hH hlt (by omega)).mono ?_;rintro e w' ⟨rfl,q,os,hw⟩;obtain⟨o,u⟩:=q2n h (by rw[List.length_mergeSort]) hw;refine⟨rfl,_,List.mergeSort_perm _ _,?_,o,u⟩;have:=List.pairwise_mergeSort (le:=fun(x y:Int)=>decide (x≤y)) (fun a b c h1 h2=>by simp only[decide_eq_true_eq]at*;omega) (fun a b=>by simp only[Bool.or_eq_true,decide_eq_true_eq];omega) zs;exact this.imp (fun h=>by simpa using h)
theorem z8t(g cap base:Nat)(zs:List Int)(w:World)(h:w.ownsRow base 2 1 (i (some ⟨g,0,none⟩) zs.length cap) zs.length (zs.map (Value.int .i64)))(hl:zs.length≤60):
  Calls s 287 #[i (some ⟨g,0,none⟩) zs.length cap] w fun e w'=>e=.returned (.slice (some ⟨g,0,none⟩) (Lib.compact zs).length cap)∧Out [g] w w':=by
 obtain⟨hH,hlt,hc⟩:=z8s h;refine(calls_of_every_depth fun D=>AnySG.slices_Compact_int_in q59 D g 0 cap zs w hH (by omega) hc).mono ?_;rintro e w' ⟨rfl,q,hw⟩;have hle:(Lib.compact zs).length≤zs.length:=by
  unfold Lib.compact Lib.compactUpTo;rw[List.length_map];exact Nat.le_trans (List.length_filter_le _ _) (by simp)
 exact⟨rfl,(q2n (ys:=Lib.compact zs++List.replicate (zs.length-(Lib.compact zs).length) 0) (os:=#[]) h (by simp only[Va,List.length_replicate];omega) (by rw[hw,grow_empty])).2⟩
theorem z6e(v:Value)(ds:List TxnD)(w:World)(h:TxnsAt w v ds)(hl:ds.length+z56 ds≤1048576):
  Calls s 273 #[v] w fun e w'=>e=.returned (H K (batF ds))∧Below w.heap.size w w':=by
 have x:=z66 v ds w h hl;obtain⟨a,cap,rfl⟩:=h.shape;by_cases X:ds.length<1
 ·rw[z3N (Or.inl X)];clear x;go_enter func273,ntmps273
  go_wp2
  go_ret;exact⟨rfl,Below.refl _ _⟩
 ·by_cases U:4<ds.length
  ·rw[z3N (Or.inr U)];clear x;go_enter func273,ntmps273
   go_wp2
   go_ret;exact⟨rfl,Below.refl _ _⟩
  ·have HB:Hid (batF ds=if allF ds=0 then(if(ds.map TxnD.id).Nodup then 0 else 6)else allF ds):=q0i (by omega);generalize batF ds=E at HB⊢;have hC:z9b ds=allF ds:=if_neg (by omega);have ad:1≤ds.length:=by omega
   have V:ds.length≤4:=by omega
   clear X U;rw[hC]at x;have hR:allF ds=0→idsR ds=ds.map TxnD.id:=fun h0=>by
    unfold idsR;rw[if_pos (by rw[hC];exact h0)]
   have ag:(idsR ds).length≤4:=Nat.le_trans (q41 ds) V;have A:Hid (allF ds=0→(idsR ds).length=ds.length∧(E=if(idsR ds).Nodup then 0 else 6)):=fun h0=>by
    rw[hR h0];refine⟨by simp,?_⟩;have:=HB.out;rw[if_pos h0]at this;exact this
   have D:Hid (allF ds≠0→E=allF ds):=fun h0=>by
    have:=HB.out;rw[if_neg h0]at this;exact this
   clear HB hR hC;generalize idsR ds=L at*;generalize allF ds=C at*;go_enter func273,ntmps273
   go_wp2_with fail
   refine x.mono ?_;rintro e w1 ⟨b,c,rfl,ho,I⟩;clear x;have B:=Blk.new w1 247 #[H K C,i b L.length c];have z:=I.alloc I.size (.cells #[H K C,i b L.length c] 247);by_cases h0:C=0
   ·subst h0;obtain⟨O,hE⟩:=A.out rfl;have HE:Hid (E=if L.Nodup then 0 else 6):=hE;have HL:Hid (L.length=ds.length):=O;have Z:=z0b ho ((Below.refl w1.heap.size w1).alloc (Nat.le_refl _) (.cells #[H K 0,i b L.length c] 247));obtain⟨g,hg⟩:∃g,b=some ⟨g,0,none⟩:=by
     rcases ho.2 with⟨_,hn⟩|⟨g,_,_,he,_⟩
     ·omega
     ·simp only[Value.slice.injEq]at he;exact⟨g,he.1⟩
    subst hg;have ah:=ho.lt g rfl;have aa:=q2o g c _ L _ Z (by omega);clear A D hE O ho Z
    go_wp2_with fail
    generalize w1.alloc (.cells #[H K 0,i (some ⟨g,0,none⟩) L.length c] 247)=W at*;refine aa.mono ?_;rintro e w3 ⟨rfl,ys,d,y,o3,u3⟩;have N:ys.length=L.length:=d.length_eq;have HC:Hid (((Lib.compact ys).length<L.length→E=6)∧(¬(Lib.compact ys).length<L.length→E=0)):=by
     obtain⟨c1,c2⟩:=z9B ys y;have Y:=d.nodup_iff;refine⟨fun hx=>?_,fun hx=>?_⟩
     ·have hn:¬ys.Nodup:=fun hn=>by have:=c1 hn;omega
      rw[HE.out,if_neg (fun e=>hn (Y.2 e))]
     ·have hn:ys.Nodup:=Classical.byContradiction (fun hn=>hx (by have:=c2 hn;omega));rw[HE.out,if_pos (Y.1 hn)]
    have M:=z8t g c _ ys w3 (by rw[N];exact o3) (by omega);rw[N]at M;have ab:w1.heap.size≠g:=by omega
    have B3:Blk w3 w1.heap.size 247 #[H K 0,i (some ⟨g,0,none⟩) L.length c]:=(u3.block _ B.lt (by simp only[f];exact ab)).trans B;have J:Below w.heap.size w w3:=Out.keep z u3 z.size (fun k hk=>by simp only[f]at hk;omega);have p1:=B3.cell 1 _ rfl;generalize (Lib.compact ys).length=m at*;clear aa HE o3 u3 B d y N I z
    go_wp2_with fail
    refine M.mono ?_;rintro e w4 ⟨rfl,u4⟩;have T:Below w.heap.size w w4:=Out.keep J u4 J.size (fun k hk=>by simp only[f]at hk;omega);clear M u4 B3 J p1;have af:=HL.out;by_cases hm:m<ds.length
    ·have E2:Hid (E=6):=HC.out.1 (by omega);clear HC
     go_wp2
     go_ret;exact⟨by rw[E2.out];rfl,T⟩
    ·have E2:Hid (E=0):=HC.out.2 (by omega);clear HC
     go_wp2
     go_ret;exact⟨by rw[E2.out];rfl,T⟩
   ·have E2:Hid (E=C):=D.out h0;have ae:(C !=0)=true:=by simpa using h0
    clear A D h0 ho
    go_wp2
    go_ret;exact⟨by rw[E2.out];rfl,z⟩
end
end Go.Proofs.YtlkpdgjnhkjpjaaGreatDoor

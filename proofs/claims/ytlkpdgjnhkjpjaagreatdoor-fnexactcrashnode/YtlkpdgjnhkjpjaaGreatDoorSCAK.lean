/- Texts joined,with what the laws reach alone. -/
import Derived.Test.YtlkpdgjnhkjpjaaGreatDoorSCAJ
import Derived.Sort.EveryDepth
set_option linter.unusedVariables false
set_option linter.unusedSimpArgs false
set_option maxRecDepth 100000
set_option maxHeartbeats 4000000
namespace Go.Proofs.YtlkpdgjnhkjpjaaGreatDoor
open Go.RowKit Go.BigFrame
section
variable {ops:Array Oper} {rest:List Oper} {op:Oper} {a:Act} {w:World} {Q:Exit→Act→World→Prop}
theorem z0K(hw:Region.wanted op (yielded ops a.tmps)=true)(ty:TypeId)(x y:Operand)(ho:op.op=.store ty x y)
  (g:Nat) (c:Array Value) (hx:a.eval x=.pointer (some ⟨g,0,none⟩)) (hy:a.eval y=.agg c)
  (t:TypeId) (d:Array Value) (hg:w.heap[g]?=some (.cells d t (0,0))) (hi:(Tryz.prog.info? ty).map (·.size)=some c.size)
  (z:d.size=c.size) (h1:c.all (·.oneCell')=true)
  (h:wpList Tryz.prog ops Q rest (a.put op.dst undef) (w.setRow g c)):wpList Tryz.prog ops Q (op::rest) a w:=by
 simp only[wpList];rw[if_pos hw];exact Or.inl (wp_store_row ty x y ho g c hx hy t d hg hi z h1 h)
end
theorem Blk.row{w:World}{b:Nat}{t:TypeId}{old:Array Value}(h:Blk w b t old)(cs:Array Value):Blk (w.setRow b cs) b t cs:=setRow_heap w b old cs t _ h
theorem z0p{B:Nat}{a w:World}(h:Below B a w){g:Nat}(hg:B≤g)(cs:Array Value):Below B a (w.setRow g cs):=
 ⟨h.os,h.tape,h.output,by rw[setRow_size];exact h.size,fun k hk=>(setRow_other w g k cs (by omega)).trans (h.block k hk)⟩
theorem q3L(zs:List Int):(zs.map iv).toArray.all (·.oneCell')=true:=all_oneCell_toArray (fun v hv=>by obtain⟨z,_,rfl⟩:=List.mem_map.1 hv;rfl)
theorem q1G{q:RoundE}(h:q.rep.length=3∧q.pro.length=3):∀j v,(q.pro.map iv)[j]?=some v→(z1v q)[3+j]?=some v:=by
 intro j v hv;obtain⟨hj,rfl⟩:=row_get h.2 hv;exact z9H h j hj
theorem z72(rs:List RoundE)(v:Int)(w:World)(h:Wel rs)(h4:rs.length≤4):
  Calls Tryz.prog 277 #[.agg (rndC rs).toArray,.int .i64 v] w fun e w'=>e=.returned (.bool (agr rs v))∧Below w.heap.size w w':=by
 have B:=Blk.new w 259 (rndC rs).toArray;have z:Below w.heap.size w (w.alloc (.cells (rndC rs).toArray 259)):=by go_grown
 have hc:=q1w rs;have ae:(rs.length:Int)≤4:=by omega
 generalize hE:agr rs v=E;have HE:Hid (E=agr rs v):=hE.symm;clear hE;have U:Hid (∀r,r<rs.length→∀j v,(z1v (rs.getD r z0F))[j]?=some v→(rndC rs)[1+r*6+j]?=some v):=fun r hr j v hv=>by
  have hj:=(List.getElem?_eq_some_iff.1 hv).1;rw[z04 (z3B h r hr)]at hj;rw[q1x h r hr j hj];exact hv
 generalize rndC rs=ds at*;go_enter Tryz.func277,Tryz.ntmps277
 go_wp2
 clear hc;generalize w.alloc (.cells ds.toArray 259)=W at*;go_loopw[12] (fun j wr=>∃k:Nat,k≤rs.length∧j=.int .i64 k∧Hid (∀j,j<k→cnt 7 (rs.getD j z0F).pro v<2)∧Below W.heap.size W wr) (fun j _=>rs.length-(intOf j).toNat)
 case atStart=>exact⟨0,Nat.zero_le _,rfl,fun j hj=>absurd hj (Nat.not_lt_zero _),Below.refl _ _⟩
 case round=>
  obtain⟨k,hk,rfl,HA,hb⟩:=hrel;by_cases O:k<rs.length
  ·have c:=z3B h k O;have HY:Hid (2≤cnt 7 (rs.getD k z0F).pro v→E=true):=fun hx=>by rw[HE.out];exact q3K O hx
   have HN:Hid (cnt 7 (rs.getD k z0F).pro v<2→∀j,j<k+1→cnt 7 (rs.getD j z0F).pro v<2):=fun hx j hj=>by
    by_cases ab:j=k
    ·subst ab;exact hx
    ·exact HA.out j (by omega)
   have J:=rng (B.below hb) (z1v (rs.getD k z0F)) (o:=1+k*6) (fun j v hv=>by rw[List.getElem?_toArray];exact U.out k O j v hv);clear HA;generalize rs.getD k z0F=q at*;have x:(Tryz.prog.info? 256).map (·.size)=some (z1v q).length:=by rw[z04 c];exact q1z
   have y:(Tryz.prog.info? 256).map (·.size)=some (z1v q).toArray.size:=x;have N:=Blk.new wr 256 #[.int .i64 0,.int .i64 0,.int .i64 0,.int .i64 0,.int .i64 0,.int .i64 0];have V:=N.row (z1v q).toArray;have d:Below W.heap.size W ((wr.alloc (.cells #[.int .i64 0,.int .i64 0,.int .i64 0,.int .i64 0,.int .i64 0,.int .i64 0] 256)).setRow wr.heap.size (z1v q).toArray):=z0p (hb.alloc hb.size _) hb.size _;have L:=rng V (q.pro.map iv) (o:=3) (fun j v hv=>by rw[List.getElem?_toArray];exact q1G c j v hv);have M:(Tryz.prog.info? 254).map (·.size)=some (q.pro.map iv).length:=by rw[List.length_map,c.2];exact z6m
   have A:(#[.int .i64 0,.int .i64 0,.int .i64 0,.int .i64 0,.int .i64 0,.int .i64 0]:Array Value).size=(z1v q).toArray.size:=(show 6=(z1v q).length by rw[z04 c])
   have I:(z1v q).toArray.all (·.oneCell')=true:=q3L _;have Z:=z4T q.pro
   go_wp2_with (first|(refine q0s (by kernel_rfl) 256 _ rfl _ _ rfl (z1v q) _ J Tryz.underlying256 rfl x ?_)|(refine z0K (by kernel_rfl) 256 _ _ rfl _ (z1v q).toArray rfl rfl 256 _ N y A I ?_)|(refine q0s (by kernel_rfl) 254 _ rfl _ _ rfl (q.pro.map iv) _ L Tryz.underlying254 rfl M ?_))
   clear J L x y M A I N V;generalize (wr.alloc (.cells #[.int .i64 0,.int .i64 0,.int .i64 0,.int .i64 0,.int .i64 0,.int .i64 0] 256)).setRow wr.heap.size (z1v q).toArray=W3 at*;refine(Z W3 c.2).mono ?_;rintro e w4 ⟨la,lc,rfl,lO,lG,lR,X⟩;replace d:=d.trans (X.mono d.size);have aa:=z1J la lc q.pro v w4 lR c.2;have Y:=q45 q.pro v;have T:=z14 (vot q.pro v) w4 Y;rw[q4p]at T;generalize vot q.pro v=m at*;generalize cnt 7 q.pro v=C at*;clear Z lO lG lR X hb Y
   go_wp2_with fail
   refine aa.mono ?_;rintro e w' ⟨rfl,hw⟩;replace hw:=hw.symm;subst hw
   go_wp2_with fail
   refine T.mono ?_;rintro e w' ⟨rfl,hw⟩;replace hw:=hw.symm;subst hw;clear aa T;by_cases hC:2≤C
   ·have E2:Hid (E=true):=HY.out hC;clear HY HN HE U
    go_wp2
    go_ret;exact⟨by rw[E2.out];rfl,z.trans (d.mono z.size)⟩
   ·have R:=HN.out (by omega);have HR:Hid _:=R;clear HY HN R
    go_wp2
    go_roundw
    case rel=>exact⟨k+1,by omega,by go_num,HR.out,d⟩
    case measure=>simp[intOf];omega
  ·have ad:k=rs.length:=by omega
   subst ad;have E2:Hid (E=false):=by rw[HE.out];exact z9M HA.out
   clear HA HE
   go_wp2
   go_ret;exact⟨by rw[E2.out];rfl,z.trans (hb.mono z.size)⟩
theorem q1H{has:Bool}{rs:List RoundE}{r n:Nat}(hr:r<rs.length)(hn:n<3)(h:repI has rs r n=false∨proR rs r n=false):(List.range rs.length).all (q00 has rs)=false:=by
 rw[List.all_eq_false];refine⟨r,List.mem_range.2 hr,?_⟩;intro e;have:=(z6T has rs r).1 e n hn;rcases h with h|h
 ·rw[this.1]at h;exact absurd h (by decide)
 ·rw[this.2]at h;exact absurd h (by decide)
theorem q4t{rs:List RoundE}{dec:List Int}{n:Nat}(hn:n<3)(h:endR rs (dec.getD n 0)=false):z5R rs dec=false:=by
 cases he:z5R rs dec with
 |false=>rfl
 |true=>
  rw[(z2J rs dec).1 he n hn]at h;exact absurd h (by decide)
theorem z2w{w w':World}{b o:Nat}{L:List Value}(h:w.rangeAt b o L)(hb:Below w.heap.size w w'):w'.rangeAt b o L:=fun j v hv=>by
 have h1:=h j v hv;rw[hb.cell (p:=⟨b,o+j,none⟩) (World.block_lt_of_cell? w _ h1)];exact h1
theorem idx0(x y z:Int)(w:World):(Instr.index 254 (.agg #[.int .i64 x,.int .i64 y,.int .i64 z]) (.int .i64 0)).run Tryz.prog w=.ok (.int .i64 x) w:=by kernel_rfl
theorem idx1(x y z:Int)(w:World):(Instr.index 254 (.agg #[.int .i64 x,.int .i64 y,.int .i64 z]) (.int .i64 1)).run Tryz.prog w=.ok (.int .i64 y) w:=by kernel_rfl
theorem idx2(x y z:Int)(w:World):(Instr.index 254 (.agg #[.int .i64 x,.int .i64 y,.int .i64 z]) (.int .i64 2)).run Tryz.prog w=.ok (.int .i64 z) w:=by kernel_rfl
theorem q1I{zs:List Int}(h3:zs.length=3)(m:Nat)(hm:m<3)(w:World):(Instr.index 254 (.agg (zs.map iv).toArray) (.int .i64 (m:Int))).run Tryz.prog w=.ok (.int .i64 (zs.getD m 0)) w:=by
 obtain⟨x,y,z,rfl⟩:=z96 h3;have:m=0∨m=1∨m=2:=by omega
 rcases this with rfl|rfl|rfl
 ·exact idx0 x y z w
 ·exact idx1 x y z w
 ·exact idx2 x y z w
theorem z86(has:Bool)(vb:Value)(rs:List RoundE)(dec:List Int)(w:World)(hG:Rul w)(h:Wel rs)(h4:rs.length≤4)(hd:dec.length=3):
  Calls Tryz.prog 241 #[.agg (brdC has vb rs dec).toArray] w fun e w'=>e=.returned (.bool ((List.range rs.length).all (q00 has rs) && z5R rs dec))∧Below w.heap.size w w':=by
 have B:=Blk.new w 261 (brdC has vb rs dec).toArray;have d:Below w.heap.size w (w.alloc (.cells (brdC has vb rs dec).toArray 261)):=by go_grown
 have hc:(brdC has vb rs dec)[0]?=some (iv rs.length):=by rw[z6U h h4 0 (by omega)];rfl
 have Z:=rng B (brdC has vb rs dec) (o:=0) (fun j v hv=>by rw[Nat.zero_add,List.getElem?_toArray];exact hv);have L:=z3X h h4 B;have aa:=rng B (dec.map iv) (o:=27) (fun j v hv=>by
  obtain⟨hj,rfl⟩:=row_get hd hv;rw[List.getElem?_toArray];exact q1y h h4 hd j hj)
 have ad:(Tryz.prog.info? 261).map (·.size)=some (brdC has vb rs dec).length:=by rw[z3j h h4 hd];exact z3D
 have M:(Tryz.prog.info? 259).map (·.size)=some (rndC rs).length:=by rw[z0x h h4];exact z3C
 have ae:(Tryz.prog.info? 254).map (·.size)=some (dec.map iv).length:=by rw[List.length_map,hd];exact z6m
 have ab:=fun r n w hG hr hn=>z3Y has vb rs dec r n w hG h h4 hd hr hn
 have V:=fun r n w hG hr hn=>z5k rs r n w hG h h4 hr hn
 have ag:=fun v w=>z72 rs v w h h4
 generalize hE:((List.range rs.length).all (q00 has rs) && z5R rs dec)=E;have HE:Hid (E=((List.range rs.length).all (q00 has rs) && z5R rs dec)):=hE.symm;clear hE h B;generalize brdC has vb rs dec=cs at*;generalize rndC rs=ds at*;go_enter Tryz.func241,Tryz.ntmps241
 go_wp2
 clear hc;generalize w.alloc (.cells cs.toArray 261)=W at*;replace hG:=hG.below d;go_loopw[10] (fun j wr=>∃k:Nat,k≤rs.length∧j=.int .i64 k∧Hid (∀j,j<k→q00 has rs j=true)∧Below W.heap.size W wr) (fun j _=>rs.length-(intOf j).toNat)
 case atStart=>exact⟨0,Nat.zero_le _,rfl,fun j hj=>absurd hj (Nat.not_lt_zero _),Below.refl _ _⟩
 case round=>
  obtain⟨k,hk,rfl,HA,hb⟩:=hrel;by_cases J:k<rs.length
  ·go_wp2
   go_loopw[13] (fun j wx=>∃m:Nat,m≤3∧j=.int .i64 m∧Hid (∀j,j<m→repI has rs k j=true∧proR rs k j=true)∧Below W.heap.size W wx) (fun j _=>3-(intOf j).toNat)
   case atStart=>exact⟨0,Nat.zero_le _,rfl,fun j hj=>absurd hj (Nat.not_lt_zero _),hb⟩
   case round=>
    obtain⟨m,hm,rfl,HB,c⟩:=hrel;by_cases y:m<3
    ·have U:(m:Int)<3:=by omega
     have HX:Hid (repI has rs k m=false→E=false):=fun hx=>by rw[HE.out,q1H J y (Or.inl hx)];rfl
     have HY:Hid (proR rs k m=false→E=false):=fun hx=>by rw[HE.out,q1H J y (Or.inr hx)];rfl
     have HN:Hid (repI has rs k m=true→proR rs k m=true→∀j,j<m+1→repI has rs k j=true∧proR rs k j=true):=fun h1 h2 j hj=>by
      by_cases N:j=m
      ·subst N;exact⟨h1,h2⟩
      ·exact HB.out j (by omega)
     have h1:=ab k m _ (hG.below c) J y;have h2:=fun w hG=>V k m w hG J y
     have A:=z2w Z c;clear HB;generalize repI has rs k m=X at*;generalize proR rs k m=Y at*
     go_wp2_with (refine q0s (by kernel_rfl) 261 _ rfl _ _ rfl cs _ A Tryz.underlying261 rfl ad ?_)
     clear A;refine h1.mono ?_;rintro e w5 ⟨rfl,T⟩;replace c:=c.trans (T.mono c.size);clear h1 T
     cases X with
     |false=>
      have E2:Hid (E=false):=HX.out rfl;clear HX HY HN HE HA
      go_wp2
      go_ret;exact⟨by rw[E2.out];rfl,d.trans (c.mono d.size)⟩
     |true=>
      have C:=z2w L c;have h3:=h2 w5 (hG.below c)
      go_wp2_with (refine q0s (by kernel_rfl) 259 _ rfl _ _ rfl ds _ C Tryz.underlying259 rfl M ?_)
      clear C h2;refine h3.mono ?_;rintro e w6 ⟨rfl,z⟩;replace c:=c.trans (z.mono c.size);clear h3 z
      cases Y with
      |false=>
       have E2:Hid (E=false):=HY.out rfl;clear HX HY HN HE HA
       go_wp2
       go_ret;exact⟨by rw[E2.out];rfl,d.trans (c.mono d.size)⟩
      |true=>
       have R:=HN.out (by first|rfl|trivial) (by first|rfl|trivial);have HR:Hid _:=R;clear HX HY HN R
       go_wp2
       go_roundw
       case rel=>exact⟨m+1,by omega,by go_num,HR.out,c⟩
       case measure=>simp[intOf];omega
    ·have O:m=3:=by omega
     subst O;have HR:Hid (∀j,j<k+1→q00 has rs j=true):=fun j hj=>by
      by_cases ah:j=k
      ·subst ah;exact(z6T has rs j).2 HB.out
      ·exact HA.out j (by omega)
     clear HA HB
     go_wp2
     go_roundw
     case rel=>exact⟨k+1,by omega,by go_num,HR.out,c⟩
     case measure=>simp[intOf];omega
  ·have ai:k=rs.length:=by omega
   subst ai;have I:Hid (E=z5R rs dec):=show _=_ by
    have e:(List.range rs.length).all (q00 has rs)=true:=by
     rw[List.all_eq_true];intro x hx;exact HA.out x (List.mem_range.1 hx)
    rw[HE.out,e,Bool.true_and]
   clear HA HE ab V;have A:=z2w aa hb
   go_wp2_with (refine q0s (by kernel_rfl) 254 _ rfl _ _ rfl (dec.map iv) _ A Tryz.underlying254 rfl ae ?_)
   clear A;go_loopw[33] (fun j wx=>∃m:Nat,m≤3∧j=.int .i64 m∧Hid (∀j,j<m→endR rs (dec.getD j 0)=true)∧Below W.heap.size W wx) (fun j _=>3-(intOf j).toNat)
   case atStart=>exact⟨0,Nat.zero_le _,rfl,fun j hj=>absurd hj (Nat.not_lt_zero _),hb⟩
   case round=>
    obtain⟨m,hm,rfl,HB,c⟩:=hrel;by_cases y:m<3
    ·have U:(m:Int)<3:=by omega
     have HY:Hid (endR rs (dec.getD m 0)=false→E=false):=fun hx=>by rw[I.out,q4t y hx]
     have HN:Hid (endR rs (dec.getD m 0)=true→∀j,j<m+1→endR rs (dec.getD j 0)=true):=fun hx j hj=>by
      by_cases N:j=m
      ·subst N;exact hx
      ·exact HB.out j (by omega)
     have HV:Hid (endR rs (dec.getD m 0)=((dec.getD m 0==3)||agr rs (dec.getD m 0))):=(rfl:_=_)
     have ak:=fun w=>q1I hd m y w
     have h1:=ag (dec.getD m 0);have C:=z2w L c;clear HB;generalize dec.getD m 0=v at*;by_cases hv:v=3
     ·have aj:(v !=3)=false:=by simp[hv]
      have R:=HN.out (by rw[HV.out,hv];rfl);have HR:Hid _:=R;clear HY HN HV R hv
      go_wp2
      go_roundw
      case rel=>exact⟨m+1,by omega,by go_num,HR.out,c⟩
      case measure=>simp[intOf];omega
     ·have aj:(v !=3)=true:=by simpa using hv
      have af:(v==3)=false:=by simpa using hv
      rw[af,Bool.false_or]at HV;rw[HV.out]at HY HN;generalize agr rs v=X at*;clear HV hv af;have h3:=h1 wr
      go_wp2_with (refine q0s (by kernel_rfl) 259 _ rfl _ _ rfl ds _ C Tryz.underlying259 rfl M ?_)
      clear C h1;refine h3.mono ?_;rintro e w6 ⟨rfl,z⟩;replace c:=c.trans (z.mono c.size);clear h3 z
      cases X with
      |false=>
       have E2:Hid (E=false):=HY.out rfl;clear HY HN I
       go_wp2
       go_ret;exact⟨by rw[E2.out];rfl,d.trans (c.mono d.size)⟩
      |true=>
       have R:=HN.out (by first|rfl|trivial);have HR:Hid _:=R;clear HY HN R
       go_wp2
       go_roundw
       case rel=>exact⟨m+1,by omega,by go_num,HR.out,c⟩
       case measure=>simp[intOf];omega
    ·have O:m=3:=by omega
     subst O;have E2:Hid (E=true):=by rw[I.out,(z2J rs dec).2 HB.out];rfl
     clear HB I
     go_wp2
     go_ret;exact⟨by rw[E2.out];rfl,d.trans (c.mono d.size)⟩
theorem q1J(w:World)(ty g:Nat)(cur:Array Value)(b off sc:Nat)(zs:List Int)(hz:zs.length=3)(hg:w.heap[g]?=some (.cells cur 254 (0,0)))(hc:cur.size=3)(hr:Row .i64 w (some ⟨b,off,none⟩) zs):
  (Builtin.copy_ #[115,115] ty #[.slice (some ⟨g,0,none⟩) 3 3,.slice (some ⟨b,off,none⟩) 3 sc]).run Tryz.prog w=.ok (goInt 3) (w.setRow g (zs.map iv).toArray):=by
 obtain⟨i0,hi,hz0,hz1,hz2⟩:=info_parts q3H;have hlen:(zs.map iv).length=3:=by simp[hz]
 have hl:=run_loadCells_list (P:=Tryz.prog) w ⟨b,off,none⟩ (zs.map iv) (z3z (z5d hr));have hst:=run_storeCells_at Tryz.prog g 0 254 (zs.map iv) 0 cur w hg (by omega) (fun v hv=>by obtain⟨z,_,rfl⟩:=List.mem_map.1 hv;rfl);have e:cur.toList.drop (zs.map iv).length=[]:=List.drop_of_length_le (by simp;omega);simp only[Nat.zero_add,Nat.add_zero,List.take_zero,List.nil_append,e,List.append_nil]at hst;rw[hlen]at hl;simp[Builtin.copy_,run_underlying Tryz.underlying115,Builtin.lenOf,Builtin.firstCells,sizeOf,typeInfo,hi,hz1,hl,hst]
theorem z73(b off cap:Nat)(zs:List Int)(w:World)(h:Row .i64 w (some ⟨b,off,none⟩) zs)(h3:zs.length=3):
  Calls Tryz.prog 239 #[.slice (some ⟨b,off,none⟩) 3 cap] w fun e w'=>e=.returned (.agg (zs.map iv).toArray)∧Below w.heap.size w w':=by
 have hb0:Below w.heap.size w ((w.alloc (.cells #[.int .i64 0,.int .i64 0,.int .i64 0] 254)).alloc (.cells #[.int .i64 0,.int .i64 0,.int .i64 0] 254)):=by go_grown
 have C:=(Blk.new w 254 #[.int .i64 0,.int .i64 0,.int .i64 0]).below (w':=(w.alloc (.cells #[.int .i64 0,.int .i64 0,.int .i64 0] 254)).alloc (.cells #[.int .i64 0,.int .i64 0,.int .i64 0] 254)) (by go_grown);have D:=Blk.new (w.alloc (.cells #[.int .i64 0,.int .i64 0,.int .i64 0] 254)) 254 #[.int .i64 0,.int .i64 0,.int .i64 0];simp only[World.size_alloc]at D;have hcp0:=fun ty=>q1J _ ty (w.heap.size+1) _ b off cap zs h3 D rfl (h.below hb0)
 obtain⟨x,y,z,rfl⟩:=z96 h3;obtain⟨W2,hcp,D2,C2,hb2⟩:∃W2,(∀ty,(Builtin.copy_ #[115,115] ty #[.slice (some ⟨w.heap.size+1,0,none⟩) 3 3,.slice (some ⟨b,off,none⟩) 3 cap]).run Tryz.prog ((w.alloc (.cells #[.int .i64 0,.int .i64 0,.int .i64 0] 254)).alloc (.cells #[.int .i64 0,.int .i64 0,.int .i64 0] 254))=.ok (goInt 3) W2)∧Blk W2 (w.heap.size+1) 254 #[.int .i64 x,.int .i64 y,.int .i64 z]∧Blk W2 w.heap.size 254 #[.int .i64 0,.int .i64 0,.int .i64 0]∧Below w.heap.size w W2:=
  ⟨_,hcp0,D.row _,(setRow_other _ _ _ _ (by omega)).trans C,z0p hb0 (g:=w.heap.size+1) (by omega) _⟩
 obtain⟨p0,p1,p2⟩:=D2.cel3;obtain⟨q0,q1,q2⟩:=C2.cel3;obtain⟨f0,f1,f2⟩:=C2.frz3;clear C D D2 C2 hb0 h hcp0;go_enter Tryz.func239,Tryz.ntmps239
 go_wp2
 exact bodyPost_ret (v:=.agg #[.int .i64 x,.int .i64 y,.int .i64 z]) (by simp[results,Tryz.results239,go_sem,q0,q1,q2]) rfl ⟨rfl,((hb2.setCell (p:=⟨w.heap.size,0,none⟩) (Nat.le_refl _) _).setCell (p:=⟨w.heap.size,1,none⟩) (Nat.le_refl _) _).setCell (p:=⟨w.heap.size,2,none⟩) (Nat.le_refl _) _⟩
theorem z4p(b:Nat)(t:TypeId):∀ (vs:List Value) (o:Nat) (w:World) (cs:List Value),Blk w b t cs.toArray→Blk (w.setCells b o vs) b t (z1a cs o vs).toArray
 |[],_,_,_,h=>h
 |v::r,o,w,cs,h=>by
  have h1:=h.set o v;rw[List.setIfInBounds_toArray]at h1;exact z4p b t r (o+1) _ _ h1
theorem z2x(b:Nat):∀ (vs:List Value) (o:Nat) (w:World),Out [b] w (w.setCells b o vs)
 |[],_,w=>Out.refl _ w
 |v::r,o,w=>(Out.setCell w b o v).trans (z2x b r (o+1) _)
theorem z87(A B C Y:List Value)(h:B.length=Y.length):z1a (A++(B++C)) A.length Y=A++(Y++C):=by
 apply List.ext_getElem?;intro j;by_cases hj:j<(A++(B++C)).length
 ·rw[z3h _ _ _ _ hj];simp only[List.length_append]at hj;by_cases h1:A.length≤j∧j<A.length+Y.length
  ·rw[if_pos h1,List.getElem?_append_right h1.1,List.getElem?_append_left (by omega)]
  ·rw[if_neg h1];by_cases h2:j<A.length
   ·rw[List.getElem?_append_left h2,List.getElem?_append_left h2]
   ·rw[List.getElem?_append_right (by omega),List.getElem?_append_right (by omega),List.getElem?_append_right (by omega),List.getElem?_append_right (by omega),h]
 ·rw[List.getElem?_eq_none (by rw[z1Q];omega),List.getElem?_eq_none (by simp only[List.length_append]at hj⊢;omega)]
theorem q0v(rs:List RoundE)(q:RoundE):z3W (rs++[q])=z3W rs++z1v q:=by simp[z3W]
theorem q28{rs:List RoundE}{q:RoundE}(tail:List Value)(h:Wel rs)(hq:q.rep.length=3∧q.pro.length=3)(h4:rs.length<4):
  (z1a (rndC rs++tail) (1+rs.length*6) (z1v q)).set 0 (iv ((rs.length:Int)+1))=rndC (rs++[q])++tail:=by
 have hl:=z2v h;have hq6:=z04 hq;have e1:rndC rs++tail=(iv rs.length::z3W rs)++(List.replicate 6 (iv 0)++(List.replicate (18-6*rs.length) (iv 0)++tail)):=by
  unfold rndC;rw[show 24-6*rs.length=6+(18-6*rs.length) by omega,←List.replicate_append_replicate];simp[List.append_assoc]
 have e2:(iv rs.length::z3W rs).length=1+rs.length*6:=by simp only[List.length_cons,hl];omega
 rw[e1,←e2,z87 _ _ _ _ (by rw[List.length_replicate,hq6])];unfold rndC;rw[q0v,List.length_append,List.length_singleton,show 24-6*(rs.length+1)=18-6*rs.length by omega];simp[List.append_assoc]
structure LatR (b g:Nat) (w:World) where
 val:World
 cnt:val.cell? ⟨b,0,none⟩=w.cell? ⟨b,0,none⟩
 box:val.heap[g]?=w.heap[g]?
theorem z74(b:Nat)(t:TypeId)(rs:List RoundE)(d:List Value)(q:RoundE)(w:World)(hB:Blk w b t (rndC rs++d).toArray)(h:Wel rs)(hq:q.rep.length=3∧q.pro.length=3)(h4:rs.length<4):
  Calls Tryz.prog 240 #[.pointer (some ⟨b,0,none⟩),.agg (z1v q).toArray] w fun e w'=>e=.returned (.tuple #[])∧Blk w' b t (rndC (rs++[q])++d).toArray∧Out [b] w w':=by
 have af:=hB.lt;have T:Below w.heap.size w (w.alloc (.cells (z1v q).toArray 256)):=by go_grown
 have G:=Blk.new w 256 (z1v q).toArray;replace hB:=hB.below T;have C:(w.alloc (.cells (z1v q).toArray 256)).cell? ⟨b,0,none⟩=some (iv rs.length):=hB.cell 0 _ rfl;have V:(z1v q).toArray.all (·.oneCell')=true:=q3L _;have M:(Tryz.prog.info? 256).map (·.size)=some (z1v q).length:=by rw[z04 hq];exact q1z
 have ag:=z0x h (by omega);have A:∀W':World,W'.heap[b]?=(w.alloc (.cells (z1v q).toArray 256)).heap[b]?→W'.there b (1+rs.length*6) (z1v q).toArray.size:=by
  intro W' aa j hj;rw[List.size_toArray,z04 hq]at hj;have O:Blk W' b t (rndC rs++d).toArray:=aa.trans hB;have ad:1+rs.length*6+j<(rndC rs++d).length:=by simp only[List.length_append];omega
  have hx:=List.getElem?_eq_getElem ad;exact⟨by rw[O.cell _ _ (by rw[List.getElem?_toArray];exact hx)];rfl,O.frozen _⟩
 have L:=q28 d h hq h4;have I:Hid ((z1a (rndC rs++d) (1+rs.length*6) (z1v q)).set 0 (iv ((rs.length:Int)+1))=rndC (rs++[q])++d):=L;clear L;generalize rndC (rs++[q])++d=es at*;generalize rndC rs++d=cs at*;have ah:(rs.length:Int)<4:=by omega
 generalize rs.length=c at*;go_enter Tryz.func240,Tryz.ntmps240
 go_wp2_with fail
 generalize w.alloc (.cells (z1v q).toArray 256)=W at*;have y:W.drew.cell? ⟨b,0,none⟩=W.cell? ⟨b,0,none⟩:=rfl;have z:W.drew.heap[w.heap.size]?=W.heap[w.heap.size]?:=rfl;have ae:Nonempty (LatR b w.heap.size W):=⟨⟨W,rfl,rfl⟩⟩
 have k0:∀u:LatR b w.heap.size W,u.val.cell? ⟨b,0,none⟩=some (iv c):=fun u=>u.cnt.trans C
 have Y:∀u:LatR b w.heap.size W,(Instr.loadAt 256 (.pointer (some ⟨w.heap.size,0,none⟩))).run Tryz.prog u.val=.ok (.agg (z1v q).toArray) u.val:=fun u=>by
  have hG:Blk u.val w.heap.size 256 (z1v q).toArray:=u.box.trans G;exact run_loadAt_mid u.val w.heap.size 0 256 (z1v q) _ (rng hG _ (fun j v hv=>by rw[Nat.zero_add,List.getElem?_toArray];exact hv)) Tryz.underlying256 rfl M
 refine z0e (S:=fun w'=>∃u:LatR b w.heap.size W,w'=u.val) (by kernel_rfl) ?_;refine sgr [(0,2)] 8 (by kernel_rfl) ⟨⟨_,y,z⟩,rfl⟩ ?_;simp only[pkE];repeat go_big_quiet_step (fail)
 refine wpQuiet_nil ?_;refine qta 2 (some 6) (.pointer (some ⟨b,0,none⟩)) 7 (by kernel_rfl) (fun u _=>by kernel_rfl) ⟨⟨_,y,z⟩,rfl⟩ ?_;simp only[Act.put,pjE];refine sgr [(3,2)] 5 (by kernel_rfl) ⟨⟨_,y,z⟩,rfl⟩ ?_;simp only[pkE];repeat go_big_quiet_step (fail)
 refine wpQuiet_nil ?_;refine qta 5 (some 9) (.agg (z1v q).toArray) 4 (by kernel_rfl) (fun u hu=>?_) ⟨⟨_,y,z⟩,rfl⟩ ?_
 ·obtain⟨u,rfl⟩:=hu;show some (((Instr.loadAt 256 (.pointer (some ⟨w.heap.size,0,none⟩)))>>=fun x=>pure (Next.value x):Sem Next).run Tryz.prog u.val)=_;rw[Sem.run_bind,Y u];rfl
 simp only[Act.put,pjE];refine qta 6 (some 10) (.pointer (some ⟨b,0,none⟩)) 3 (by kernel_rfl) (fun u _=>by kernel_rfl) ⟨⟨_,y,z⟩,rfl⟩ ?_;simp only[Act.put,pjE];refine sgr [(7,2)] 1 (by kernel_rfl) ⟨⟨_,y,z⟩,rfl⟩ ?_;simp only[pkE];repeat go_big_quiet_step (fail)
 refine wpQuiet_nil ?_;refine ona 9 0 rfl (by kernel_rfl) ?_;refine st_g (by kernel_rfl) 256 _ _ rfl b (1+c*6) (z1v q).toArray rfl rfl (A _ rfl) M V ?_;have D:Blk (W.drew.setCells b (1+c*6) (z1v q)) b t (z1a cs (1+c*6) (z1v q)).toArray:=z4p b t (z1v q) (1+c*6) W.drew cs hB;have U:Out [b] w (W.drew.setCells b (1+c*6) (z1v q)):=(Out.of_below T).trans ((Out.of_below ((Below.refl _ _).drew)).trans (z2x b (z1v q) (1+c*6) W.drew));have ab:w.heap.size≠b:=by omega
 have J:(W.drew.setCells b (1+c*6) (z1v q)).heap[w.heap.size]?=W.heap[w.heap.size]?:=((z2x b (z1v q) (1+c*6) W.drew).block _ G.lt (by simp only[List.mem_singleton];exact ab))
 have N:(W.drew.setCells b (1+c*6) (z1v q)).cell? ⟨b,0,none⟩=W.cell? ⟨b,0,none⟩:=World.cell?_setCells_out b (z1v q) (1+c*6) W.drew ⟨b,0,none⟩ (fun _ _=>Or.inl (by show 0<1+c*6;omega));refine ThenGo.to ⟨⟨⟨_,N,J⟩,rfl⟩,?_⟩;refine z0i (by kernel_rfl) ?_;have Z:=N.trans C;have ai:=D.frozen 0;have F:=D.set 0 (iv ((c:Int)+1));rw[List.setIfInBounds_toArray,I.out]at F;have U2:=U.set (b:=b) (j:=0) (u:=iv ((c:Int)+1)) (by simp);have HF:Hid (Blk _ b t es.toArray∧Out [b] w _):=And.intro F U2;clear F U2 D U N J z y k0 Y ae A I;generalize W.drew.setCells b (1+c*6) (z1v q)=X at*
 go_wp2
 go_end0
 exact⟨rfl,HF.out⟩
def z1n:Act→List (Option Tmp)→List Value→Act
 |a,d::ds,v::vs=>z1n (a.put d v) ds vs
 |a,_,_=>a
section
variable {P:Program} {ops:Array Oper} {Q:Exit→Act→World→Prop}
theorem z05{id:Nat}{a:Act}{w:World}(ds:List (Option Tmp))(R:List Value→World→Prop)
  (hreg:(Code.region id ops true).wp P (fun e a' w'=>e=.normal∧∃vs,R vs w'∧a'=z1n a ds vs) a w) (himp:∀vs w',R vs w'→Q .normal (z1n a ds vs) w'):(Code.region id ops true).wp P Q a w:=by
 refine Code.wp_mono ?_ hreg;rintro e a' w' ⟨rfl,vs,hR,rfl⟩;exact himp vs w' hR
end
structure LatO (F:List Nat) (w:World) where
 val:World
 isOut:Out F w val
theorem z5l{F:List Nat}{w:World}{b o:Nat}{v:Value}(h:w.cell? ⟨b,o,none⟩=some v)(hF:b∉F):∀u:LatO F w,u.val.cell? ⟨b,o,none⟩=some v:=fun u=>by
 have hb:=World.block_lt_of_cell? w _ h;have e:=u.isOut.block b hb hF;unfold World.cell? at h⊢;simp only at h⊢;rw[e];exact h
section
open Go.Sort
theorem z4q:∀ (L:List Int),L.Pairwise (· ≤ ·)→(∀j,j+1<L.length→L.getD (j+1) 0≠L.getD j 0)→L.Nodup
 |[],_,_=>List.nodup_nil
 |[a],_,_=>by simp
 |a::b::t,hs,hadj=>by
  rw[List.pairwise_cons]at hs;have hab:a≠b:=fun e=>hadj 0 (by simp) (by simpa using e.symm)
  have ih:=z4q (b::t) hs.2 (fun j hj=>by simpa using hadj (j+1) (by simpa using hj));rw[List.nodup_cons];refine⟨fun hm=>?_,ih⟩;have h1:=hs.1 b (by simp);rcases List.mem_cons.1 hm with h|h
  ·exact hab h
  ·have h2:=(List.pairwise_cons.1 hs.2).1 a h;omega
theorem q43(L:List Int)(j:Nat):L.toArray[j]! =L.getD j 0:=by
 rw[List.getElem!_toArray];by_cases h:j<L.length
 ·rw[getElem!_pos L j h];simp[List.getD,h]
 ·rw[getElem!_neg L j h];simp[List.getD,List.getElem?_eq_none (show L.length≤j by omega)]
theorem z88(L:List Int)(hs:L.Pairwise (· ≤ ·)):(L.Nodup→(Lib.compact L).length=L.length)∧(¬L.Nodup→(Lib.compact L).length<L.length):=by
 constructor
 ·intro h;rw[Lib.compact_all];intro j hj;unfold Lib.keeps;rw[decide_eq_true_eq,q43,q43];by_cases h0:j=0
  ·exact Or.inl h0
  ·right;intro e;have e1:L.getD j 0=L[j]:=by simp[List.getD,hj]
   have e2:L.getD (j-1) 0=L[j-1]'(by omega):=by simp[List.getD,show j-1<L.length by omega]
   rw[e1,e2]at e;exact List.pairwise_iff_getElem.1 h (j-1) j (by omega) hj (by omega) e.symm
 ·intro h;have hex:∃j,j+1<L.length∧L.getD (j+1) 0=L.getD j 0:=by
   apply Classical.byContradiction;intro hn;exact h (z4q L hs (fun j hj e=>hn ⟨j,hj,e⟩))
  obtain⟨j,hj,e⟩:=hex;unfold Lib.compact Lib.compactUpTo;rw[List.length_map];have:=(List.length_filter_lt_length_iff_exists (p:=Lib.keeps L.toArray) (l:=List.range L.length)).2 ⟨j + 1,List.mem_range.2 hj,by
   unfold Lib.keeps;rw[decide_eq_true_eq,q43,q43];rintro(h|h)
   ·omega
   ·exact h (by simpa using e)⟩
  rwa [List.length_range]at this
theorem q1K{w w':World}{base g n cap q:Nat}{zs ys:List Int}{os:Array Obj}(h:w.ownsRow base 2 1 (.slice (some ⟨g,0,none⟩) n cap) n (zs.map (Value.int .i64)))(hl:ys.length=n)
  (hw:w'=grow (putRow (Value.int .i64) (Sort.ahead w q) g 0 ys.toArray) os):w'.ownsRow base 2 1 (.slice (some ⟨g,0,none⟩) n cap) n (ys.map (Value.int .i64))∧Out [g] w w':=by
 rcases h.2 with⟨he,hn⟩|⟨g',cap',cur,he,hb,hh,h1,h2,h3,h4⟩
 ·simp at he
 ·simp only[Value.slice.injEq,Option.some.injEq,Addr.mk.injEq,and_true,true_and]at he;obtain⟨rfl,rfl⟩:=he;have hlt:g<w.heap.size:=(Array.getElem?_eq_some_iff.1 hh).1;have hsz:(putRow (Value.int .i64) (Sort.ahead w q) g 0 ys.toArray).heap.size=w.heap.size:=by simp
  have hblk:∀k,k<w.heap.size→w'.heap[k]?=(putRow (Value.int .i64) (Sort.ahead w q) g 0 ys.toArray).heap[k]?:=fun k hk=>by
   rw[hw];exact Array.getElem?_append_left (by rw[hsz];exact hk)
  have hg:w'.heap[g]?=some (.cells (putCells (Value.int .i64) 0 ys.toArray cur) 2 (0,0)):=by
   rw[hblk g hlt];show(w.heap.modify g _)[g]?=_;rw[Array.getElem?_modify,if_pos rfl,hh];rfl
  have hcs:(putCells (Value.int .i64) 0 ys.toArray cur).size=cur.size:=by simp[putCells]
  refine⟨⟨by simp[hl],Or.inr ⟨g,cap,_,rfl,hb,hg,h1,h2,by rw[hcs];exact h3,?_⟩⟩,?_⟩
  ·apply List.ext_getElem?;intro j;by_cases hj:j<n
   ·rw[List.getElem?_take,if_pos (by omega),Array.getElem?_toList];simp only[putCells,Array.getElem?_mapIdx];rw[Array.getElem?_eq_getElem (by omega),Option.map_some,if_pos ⟨Nat.zero_le _,by rw[List.size_toArray];omega⟩];simp only[Nat.sub_zero];rw[q43,List.getElem?_map,List.getElem?_eq_getElem (by omega)];simp[List.getD,show j<ys.length by omega]
   ·rw[List.getElem?_eq_none (by simp;omega),List.getElem?_eq_none (by simp;omega)]
  ·refine⟨by rw[hw];rfl,by rw[hw];rfl,by rw[hw];rfl,?_,fun k hk hn=>?_⟩
   ·rw[hw];show w.heap.size≤(_++os).size;rw[Array.size_append,hsz];omega
   ·rw[hblk k hk];show(w.heap.modify g _)[k]?=_;rw[Array.getElem?_modify,if_neg (fun e=>hn (by simp[e]))]
theorem z75{w:World}{base g n cap:Nat}{zs:List Int}(h:w.ownsRow base 2 1 (.slice (some ⟨g,0,none⟩) n cap) n (zs.map (Value.int .i64))):Holds (Value.int .i64) w g 0 zs.toArray∧g<w.heap.size∧n≤cap:=by
 have hl:zs.length=n:=by have:=h.1;simpa using this
 refine⟨fun j hj=>?_,?_,z9J h⟩
 ·rw[List.size_toArray]at hj;refine⟨?_,h.frozenAt _⟩;rw[Nat.zero_add,h.cellAt j (by omega),q43];simp[List.getD,hj]
 ·exact(h.lt g rfl).2
theorem q1L(g cap base:Nat)(zs:List Int)(w:World)(h:w.ownsRow base 2 1 (.slice (some ⟨g,0,none⟩) zs.length cap) zs.length (zs.map (Value.int .i64)))(hl:zs.length≤60):
  Calls Tryz.prog 285 #[.slice (some ⟨g,0,none⟩) zs.length cap] w fun e w'=>e=.returned (.tuple #[])∧∃ys:List Int,ys.Perm zs∧ys.Pairwise (· ≤ ·)∧w'.ownsRow base 2 1 (.slice (some ⟨g,0,none⟩) zs.length cap) zs.length (ys.map (Value.int .i64))∧Out [g] w w':=by
 obtain⟨hH,hlt,hc⟩:=z75 h;refine(AnyM.slices_Sort_int q1l g 0 cap zs w hH hlt (by omega)).mono ?_;rintro e w' ⟨rfl,q,os,hw⟩;obtain⟨o,u⟩:=q1K h (by rw[List.length_mergeSort]) hw;refine⟨rfl,_,List.mergeSort_perm _ _,?_,o,u⟩;have:=List.pairwise_mergeSort (le:=fun(x y:Int)=>decide (x≤y)) (fun a b c h1 h2=>by simp only[decide_eq_true_eq]at*;omega) (fun a b=>by simp only[Bool.or_eq_true,decide_eq_true_eq];omega) zs;exact this.imp (fun h=>by simpa using h)
theorem z76(g cap base:Nat)(zs:List Int)(w:World)(h:w.ownsRow base 2 1 (.slice (some ⟨g,0,none⟩) zs.length cap) zs.length (zs.map (Value.int .i64)))(hl:zs.length≤60):
  Calls Tryz.prog 287 #[.slice (some ⟨g,0,none⟩) zs.length cap] w fun e w'=>e=.returned (.slice (some ⟨g,0,none⟩) (Lib.compact zs).length cap)∧Out [g] w w':=by
 obtain⟨hH,hlt,hc⟩:=z75 h;refine(calls_of_every_depth fun D=>AnySG.slices_Compact_int_in q49 D g 0 cap zs w hH (by omega) hc).mono ?_;rintro e w' ⟨rfl,q,hw⟩;have hle:(Lib.compact zs).length≤zs.length:=by
  unfold Lib.compact Lib.compactUpTo;rw[List.length_map];exact Nat.le_trans (List.length_filter_le _ _) (by simp)
 exact⟨rfl,(q1K (ys:=Lib.compact zs++List.replicate (zs.length-(Lib.compact zs).length) 0) (os:=#[]) h (by simp only[List.length_append,List.length_replicate];omega) (by rw[hw,grow_empty])).2⟩
theorem z5Z(v:Value)(ds:List TxnD)(w:World)(h:TxnsAt w v ds)(hl:ds.length+z5c ds≤1048576):
  Calls Tryz.prog 273 #[v] w fun e w'=>e=.returned (.int .i64 (batF ds))∧Below w.heap.size w w':=by
 have x:=z3y v ds w h hl;obtain⟨a,cap,rfl⟩:=h.shape;by_cases Y:ds.length<1
 ·rw[z3E (Or.inl Y)];clear x;go_enter Tryz.func273,Tryz.ntmps273
  go_wp2
  go_ret;exact⟨rfl,Below.refl _ _⟩
 ·by_cases V:4<ds.length
  ·rw[z3E (Or.inr V)];clear x;go_enter Tryz.func273,Tryz.ntmps273
   go_wp2
   go_ret;exact⟨rfl,Below.refl _ _⟩
  ·have HB:Hid (batF ds=if allF ds=0 then(if(ds.map TxnD.id).Nodup then 0 else 6)else allF ds):=z9K (by omega);generalize batF ds=E at HB⊢;have hC:idsC ds=allF ds:=if_neg (by omega);have ae:1≤ds.length:=by omega
   have X:ds.length≤4:=by omega
   clear Y V;rw[hC]at x;have hR:allF ds=0→idsR ds=ds.map TxnD.id:=fun h0=>by
    unfold idsR;rw[if_pos (by rw[hC];exact h0)]
   have ah:(idsR ds).length≤4:=Nat.le_trans (q4e ds) X;have A:Hid (allF ds=0→(idsR ds).length=ds.length∧(E=if(idsR ds).Nodup then 0 else 6)):=fun h0=>by
    rw[hR h0];refine⟨by simp,?_⟩;have:=HB.out;rw[if_pos h0]at this;exact this
   have I:Hid (allF ds≠0→E=allF ds):=fun h0=>by
    have:=HB.out;rw[if_neg h0]at this;exact this
   clear HB hR hC;generalize idsR ds=L at*;generalize allF ds=C at*;go_enter Tryz.func273,Tryz.ntmps273
   go_wp2_with fail
   refine x.mono ?_;rintro e w1 ⟨b,c,rfl,ho,J⟩;clear x;have B:=Blk.new w1 247 #[.int .i64 C,.slice b L.length c];have z:=J.alloc J.size (.cells #[.int .i64 C,.slice b L.length c] 247);by_cases h0:C=0
   ·subst h0;obtain⟨T,hE⟩:=A.out rfl;have HE:Hid (E=if L.Nodup then 0 else 6):=hE;have HL:Hid (L.length=ds.length):=T;have aa:=z0a ho ((Below.refl w1.heap.size w1).alloc (Nat.le_refl _) (.cells #[.int .i64 0,.slice b L.length c] 247));obtain⟨g,hg⟩:∃g,b=some ⟨g,0,none⟩:=by
     rcases ho.2 with⟨_,hn⟩|⟨g,_,_,he,_⟩
     ·omega
     ·simp only[Value.slice.injEq]at he;exact⟨g,he.1⟩
    subst hg;have ai:=ho.lt g rfl;have ab:=q1L g c _ L _ aa (by omega);clear A I hE T ho aa
    go_wp2_with fail
    generalize w1.alloc (.cells #[.int .i64 0,.slice (some ⟨g,0,none⟩) L.length c] 247)=W at*;refine ab.mono ?_;rintro e w3 ⟨rfl,ys,d,y,o3,u3⟩;have O:ys.length=L.length:=d.length_eq;have HC:Hid (((Lib.compact ys).length<L.length→E=6)∧(¬(Lib.compact ys).length<L.length→E=0)):=by
     obtain⟨c1,c2⟩:=z88 ys y;have Z:=d.nodup_iff;refine⟨fun hx=>?_,fun hx=>?_⟩
     ·have hn:¬ys.Nodup:=fun hn=>by have:=c1 hn;omega
      rw[HE.out,if_neg (fun e=>hn (Z.2 e))]
     ·have hn:ys.Nodup:=Classical.byContradiction (fun hn=>hx (by have:=c2 hn;omega));rw[HE.out,if_pos (Z.1 hn)]
    have N:=z76 g c _ ys w3 (by rw[O];exact o3) (by omega);rw[O]at N;have ad:w1.heap.size≠g:=by omega
    have B3:Blk w3 w1.heap.size 247 #[.int .i64 0,.slice (some ⟨g,0,none⟩) L.length c]:=(u3.block _ B.lt (by simp only[List.mem_singleton];exact ad)).trans B;have M:Below w.heap.size w w3:=Out.keep z u3 z.size (fun k hk=>by simp only[List.mem_singleton]at hk;omega);have p1:=B3.cell 1 _ rfl;generalize (Lib.compact ys).length=m at*;clear ab HE o3 u3 B d y O J z
    go_wp2_with fail
    refine N.mono ?_;rintro e w4 ⟨rfl,u4⟩;have U:Below w.heap.size w w4:=Out.keep M u4 M.size (fun k hk=>by simp only[List.mem_singleton]at hk;omega);clear N u4 B3 M p1;have ag:=HL.out;by_cases hm:m<ds.length
    ·have E2:Hid (E=6):=HC.out.1 (by omega);clear HC
     go_wp2
     go_ret;exact⟨by rw[E2.out];rfl,U⟩
    ·have E2:Hid (E=0):=HC.out.2 (by omega);clear HC
     go_wp2
     go_ret;exact⟨by rw[E2.out];rfl,U⟩
   ·have E2:Hid (E=C):=I.out h0;have af:(C !=0)=true:=by simpa using h0
    clear A I h0 ho
    go_wp2
    go_ret;exact⟨by rw[E2.out];rfl,z⟩
end
end Go.Proofs.YtlkpdgjnhkjpjaaGreatDoor

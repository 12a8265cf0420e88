/- Texts joined,with what the laws reach alone. -/
import Derived.Test.YtljbililjlafcaaGreatDoorILAD
import Derived.Sort.EveryDepth
import Derived.Laws.Rows
import Derived.Laws.Tables
import Derived.Deep.MidRow
set_option linter.unusedVariables false
set_option linter.unusedSimpArgs false
set_option maxRecDepth 100000
set_option maxHeartbeats 4000000
namespace Go.Proofs.YtljbililjlafcaaGreatDoor
open Go.RowKit Go.BigFrame
section
open Go.Sort
theorem z3F:∀ (L:List Int),L.Pairwise (· ≤ ·)→(∀j,j+1<L.length→L.getD (j+1) 0≠L.getD j 0)→L.Nodup
 |[],_,_=>List.nodup_nil
 |[a],_,_=>by simp
 |a::b::t,hs,hadj=>by
  rw[List.pairwise_cons]at hs;have hab:a≠b:=fun e=>hadj 0 (by simp) (by simpa using e.symm)
  have ih:=z3F (b::t) hs.2 (fun j hj=>by simpa using hadj (j+1) (by simpa using hj));rw[List.nodup_cons];refine⟨fun hm=>?_,ih⟩;have h1:=hs.1 b (by simp);rcases List.mem_cons.1 hm with h|h
  ·exact hab h
  ·have h2:=(List.pairwise_cons.1 hs.2).1 a h;omega
theorem q3H(L:List Int)(j:Nat):L.toArray[j]! =L.getD j 0:=by
 rw[List.getElem!_toArray];by_cases h:j<L.length
 ·rw[getElem!_pos L j h];simp[List.getD,h]
 ·rw[getElem!_neg L j h];simp[List.getD,List.getElem?_eq_none (show L.length≤j by omega)]
theorem z7R(L:List Int)(hs:L.Pairwise (· ≤ ·)):(L.Nodup→(Lib.compact L).length=L.length)∧(¬L.Nodup→(Lib.compact L).length<L.length):=by
 constructor
 ·intro h;rw[Lib.compact_all];intro j hj;unfold Lib.keeps;rw[decide_eq_true_eq,q3H,q3H];by_cases h0:j=0
  ·exact Or.inl h0
  ·right;intro e;have e1:L.getD j 0=L[j]:=by simp[List.getD,hj]
   have e2:L.getD (j-1) 0=L[j-1]'(by omega):=by simp[List.getD,show j-1<L.length by omega]
   rw[e1,e2]at e;exact List.pairwise_iff_getElem.1 h (j-1) j (by omega) hj (by omega) e.symm
 ·intro h;have hex:∃j,j+1<L.length∧L.getD (j+1) 0=L.getD j 0:=by
   apply Classical.byContradiction;intro hn;exact h (z3F L hs (fun j hj e=>hn ⟨j,hj,e⟩))
  obtain⟨j,hj,e⟩:=hex;unfold Lib.compact Lib.compactUpTo;rw[List.length_map];have:=(List.length_filter_lt_length_iff_exists (p:=Lib.keeps L.toArray) (l:=List.range L.length)).2 ⟨j + 1,List.mem_range.2 hj,by
   unfold Lib.keeps;rw[decide_eq_true_eq,q3H,q3H];rintro(h|h)
   ·omega
   ·exact h (by simpa using e)⟩
  rwa [List.length_range]at this
theorem q0i{w w':World}{base g n cap q:Nat}{zs ys:List Int}{os:Array Obj}(h:w.ownsRow base 2 1 (.slice (some ⟨g,0,none⟩) n cap) n (zs.map (Value.int .i64)))(hl:ys.length=n)
  (hw:w'=grow (putRow (Value.int .i64) (Sort.ahead w q) g 0 ys.toArray) os):w'.ownsRow base 2 1 (.slice (some ⟨g,0,none⟩) n cap) n (ys.map (Value.int .i64))∧Out [g] w w':=by
 rcases h.2 with⟨he,hn⟩|⟨g',cap',cur,he,hb,hh,h1,h2,h3,h4⟩
 ·simp at he
 ·simp only[Value.slice.injEq,Option.some.injEq,Addr.mk.injEq,and_true,true_and]at he;obtain⟨rfl,rfl⟩:=he;have hlt:g<w.heap.size:=(Array.getElem?_eq_some_iff.1 hh).1;have hsz:(putRow (Value.int .i64) (Sort.ahead w q) g 0 ys.toArray).heap.size=w.heap.size:=by simp
  have hblk:∀k,k<w.heap.size→w'.heap[k]?=(putRow (Value.int .i64) (Sort.ahead w q) g 0 ys.toArray).heap[k]?:=fun k hk=>by
   rw[hw];exact Array.getElem?_append_left (by rw[hsz];exact hk)
  have hg:w'.heap[g]?=some (.cells (putCells (Value.int .i64) 0 ys.toArray cur) 2 (0,0)):=by
   rw[hblk g hlt];show(w.heap.modify g _)[g]?=_;rw[Array.getElem?_modify,if_pos rfl,hh];rfl
  have hcs:(putCells (Value.int .i64) 0 ys.toArray cur).size=cur.size:=by simp[putCells]
  refine⟨⟨by simp[hl],Or.inr ⟨g,cap,_,rfl,hb,hg,h1,h2,by rw[hcs];exact h3,?_⟩⟩,?_⟩
  ·apply List.ext_getElem?;intro j;by_cases hj:j<n
   ·rw[List.getElem?_take,if_pos (by omega),Array.getElem?_toList];simp only[putCells,Array.getElem?_mapIdx];rw[Array.getElem?_eq_getElem (by omega),Option.map_some,if_pos ⟨Nat.zero_le _,by rw[List.size_toArray];omega⟩];simp only[Nat.sub_zero];rw[q3H,List.getElem?_map,List.getElem?_eq_getElem (by omega)];simp[List.getD,show j<ys.length by omega]
   ·rw[List.getElem?_eq_none (by simp;omega),List.getElem?_eq_none (by simp;omega)]
  ·refine⟨by rw[hw];rfl,by rw[hw];rfl,by rw[hw];rfl,?_,fun k hk hn=>?_⟩
   ·rw[hw];show w.heap.size≤(_++os).size;rw[Array.size_append,hsz];omega
   ·rw[hblk k hk];show(w.heap.modify g _)[k]?=_;rw[Array.getElem?_modify,if_neg (fun e=>hn (by simp[e]))]
theorem z6Q{w:World}{base g n cap:Nat}{zs:List Int}(h:w.ownsRow base 2 1 (.slice (some ⟨g,0,none⟩) n cap) n (zs.map (Value.int .i64))):Holds (Value.int .i64) w g 0 zs.toArray∧g<w.heap.size∧n≤cap:=by
 have hl:zs.length=n:=by have:=h.1;simpa using this
 refine⟨fun j hj=>?_,?_,z8p h⟩
 ·rw[List.size_toArray]at hj;refine⟨?_,h.frozenAt _⟩;rw[Nat.zero_add,h.cellAt j (by omega),q3H];simp[List.getD,hj]
 ·exact(h.lt g rfl).2
theorem q0j(g cap base:Nat)(zs:List Int)(w:World)(h:w.ownsRow base 2 1 (.slice (some ⟨g,0,none⟩) zs.length cap) zs.length (zs.map (Value.int .i64)))(hl:zs.length≤60):
  Calls Tryz.prog 170 #[.slice (some ⟨g,0,none⟩) zs.length cap] w fun e w'=>e=.returned (.tuple #[])∧∃ys:List Int,ys.Perm zs∧ys.Pairwise (· ≤ ·)∧w'.ownsRow base 2 1 (.slice (some ⟨g,0,none⟩) zs.length cap) zs.length (ys.map (Value.int .i64))∧Out [g] w w':=by
 obtain⟨hH,hlt,hc⟩:=z6Q h;refine(AnyM.slices_Sort_int q0h g 0 cap zs w hH hlt (by omega)).mono ?_;rintro e w' ⟨rfl,q,os,hw⟩;obtain⟨o,u⟩:=q0i h (by rw[List.length_mergeSort]) hw;refine⟨rfl,_,List.mergeSort_perm _ _,?_,o,u⟩;have:=List.pairwise_mergeSort (le:=fun(x y:Int)=>decide (x≤y)) (fun a b c h1 h2=>by simp only[decide_eq_true_eq]at*;omega) (fun a b=>by simp only[Bool.or_eq_true,decide_eq_true_eq];omega) zs;exact this.imp (fun h=>by simpa using h)
theorem z6R(g cap base:Nat)(zs:List Int)(w:World)(h:w.ownsRow base 2 1 (.slice (some ⟨g,0,none⟩) zs.length cap) zs.length (zs.map (Value.int .i64)))(hl:zs.length≤60):
  Calls Tryz.prog 171 #[.slice (some ⟨g,0,none⟩) zs.length cap] w fun e w'=>e=.returned (.slice (some ⟨g,0,none⟩) (Lib.compact zs).length cap)∧Out [g] w w':=by
 obtain⟨hH,hlt,hc⟩:=z6Q h;refine(calls_of_every_depth fun D=>AnySG.slices_Compact_int_in q3X D g 0 cap zs w hH (by omega) hc).mono ?_;rintro e w' ⟨rfl,q,hw⟩;have hle:(Lib.compact zs).length≤zs.length:=by
  unfold Lib.compact Lib.compactUpTo;rw[List.length_map];exact Nat.le_trans (List.length_filter_le _ _) (by simp)
 exact⟨rfl,(q0i (ys:=Lib.compact zs++List.replicate (zs.length-(Lib.compact zs).length) 0) (os:=#[]) h (by simp only[List.length_append,List.length_replicate];omega) (by rw[hw,grow_empty])).2⟩
theorem z5b(v:Value)(ds:List TxnD)(w:World)(h:TxnsAt w v ds)(hl:ds.length+z47 ds≤1048576):
  Calls Tryz.prog 139 #[v] w fun e w'=>e=.returned (.int .i64 (batF ds))∧Below w.heap.size w w':=by
 have x:=z5R v ds w h hl;obtain⟨a,cap,rfl⟩:=h.shape;by_cases X:ds.length<1
 ·rw[z2S (Or.inl X)];clear x;go_enter Tryz.func139,Tryz.ntmps139
  go_wp2
  go_ret;exact⟨rfl,Below.refl _ _⟩
 ·by_cases U:4<ds.length
  ·rw[z2S (Or.inr U)];clear x;go_enter Tryz.func139,Tryz.ntmps139
   go_wp2
   go_ret;exact⟨rfl,Below.refl _ _⟩
  ·have HB:Hid (batF ds=if allF ds=0 then(if(ds.map TxnD.id).Nodup then 0 else 6)else allF ds):=z8q (by omega);generalize batF ds=E at HB⊢;have hC:z7x ds=allF ds:=if_neg (by omega);have ad:1≤ds.length:=by omega
   have V:ds.length≤4:=by omega
   clear X U;rw[hC]at x;have hR:allF ds=0→idsR ds=ds.map TxnD.id:=fun h0=>by
    unfold idsR;rw[if_pos (by rw[hC];exact h0)]
   have ag:(idsR ds).length≤4:=Nat.le_trans (q27 ds) V;have A:Hid (allF ds=0→(idsR ds).length=ds.length∧(E=if(idsR ds).Nodup then 0 else 6)):=fun h0=>by
    rw[hR h0];refine⟨by simp,?_⟩;have:=HB.out;rw[if_pos h0]at this;exact this
   have D:Hid (allF ds≠0→E=allF ds):=fun h0=>by
    have:=HB.out;rw[if_neg h0]at this;exact this
   clear HB hR hC;generalize idsR ds=L at*;generalize allF ds=C at*;go_enter Tryz.func139,Tryz.ntmps139
   go_wp2_with fail
   refine x.mono ?_;rintro e w1 ⟨b,c,rfl,ho,I⟩;clear x;have B:=Blk.new w1 261 #[.int .i64 C,.slice b L.length c];have z:=I.alloc I.size (.cells #[.int .i64 C,.slice b L.length c] 261);by_cases h0:C=0
   ·subst h0;obtain⟨O,hE⟩:=A.out rfl;have HE:Hid (E=if L.Nodup then 0 else 6):=hE;have HL:Hid (L.length=ds.length):=O;have Z:=z0d ho ((Below.refl w1.heap.size w1).alloc (Nat.le_refl _) (.cells #[.int .i64 0,.slice b L.length c] 261));obtain⟨g,hg⟩:∃g,b=some ⟨g,0,none⟩:=by
     rcases ho.2 with⟨_,hn⟩|⟨g,_,_,he,_⟩
     ·omega
     ·simp only[Value.slice.injEq]at he;exact⟨g,he.1⟩
    subst hg;have ah:=ho.lt g rfl;have aa:=q0j g c _ L _ Z (by omega);clear A D hE O ho Z
    go_wp2_with fail
    generalize w1.alloc (.cells #[.int .i64 0,.slice (some ⟨g,0,none⟩) L.length c] 261)=W at*;refine aa.mono ?_;rintro e w3 ⟨rfl,ys,d,y,o3,u3⟩;have N:ys.length=L.length:=d.length_eq;have HC:Hid (((Lib.compact ys).length<L.length→E=6)∧(¬(Lib.compact ys).length<L.length→E=0)):=by
     obtain⟨c1,c2⟩:=z7R ys y;have Y:=d.nodup_iff;refine⟨fun hx=>?_,fun hx=>?_⟩
     ·have hn:¬ys.Nodup:=fun hn=>by have:=c1 hn;omega
      rw[HE.out,if_neg (fun e=>hn (Y.2 e))]
     ·have hn:ys.Nodup:=Classical.byContradiction (fun hn=>hx (by have:=c2 hn;omega));rw[HE.out,if_pos (Y.1 hn)]
    have M:=z6R g c _ ys w3 (by rw[N];exact o3) (by omega);rw[N]at M;have ab:w1.heap.size≠g:=by omega
    have B3:Blk w3 w1.heap.size 261 #[.int .i64 0,.slice (some ⟨g,0,none⟩) L.length c]:=(u3.block _ B.lt (by simp only[List.mem_singleton];exact ab)).trans B;have J:Below w.heap.size w w3:=Out.keep z u3 z.size (fun k hk=>by simp only[List.mem_singleton]at hk;omega);have p1:=B3.cell 1 _ rfl;generalize (Lib.compact ys).length=m at*;clear aa HE o3 u3 B d y N I z
    go_wp2_with fail
    refine M.mono ?_;rintro e w4 ⟨rfl,u4⟩;have T:Below w.heap.size w w4:=Out.keep J u4 J.size (fun k hk=>by simp only[List.mem_singleton]at hk;omega);clear M u4 B3 J p1;have af:=HL.out;by_cases hm:m<ds.length
    ·have E2:Hid (E=6):=HC.out.1 (by omega);clear HC
     go_wp2
     go_ret;exact⟨by rw[E2.out];rfl,T⟩
    ·have E2:Hid (E=0):=HC.out.2 (by omega);clear HC
     go_wp2
     go_ret;exact⟨by rw[E2.out];rfl,T⟩
   ·have E2:Hid (E=C):=D.out h0;have ae:(C !=0)=true:=by simpa using h0
    clear A D h0 ho
    go_wp2
    go_ret;exact⟨by rw[E2.out];rfl,z⟩
end
structure InstP (w:World) (b o:Nat) (p:InstQ):Prop where
 box:Box4 w b o (.bool p.has) p.vb p.vr p.vd
 rd:instK.rd w p
theorem InstP.below{w w':World}{b o:Nat}{p:InstQ}(h:InstP w b o p)(hb:Below w.heap.size w w'):InstP w' b o p:=⟨h.box.below hb,instK.rd_below h.rd hb⟩
theorem InstP.batch{w:World}{b o:Nat}{p:InstQ}(h:InstP w b o p):txnK.At w p.vb p.batch:=h.rd.1
theorem InstP.rounds{w:World}{b o:Nat}{p:InstQ}(h:InstP w b o p):roundK.At w p.vr p.rounds:=h.rd.2.1
theorem InstP.dec{w:World}{b o:Nat}{p:InstQ}(h:InstP w b o p):intK.At w p.vd p.dec:=h.rd.2.2
theorem z07(rs:List RoundQ)(r:Nat)(hr:r<rs.length):(rs.map RoundQ.e).getD r z0D=RoundQ.e rs[r]:=by simp[List.getD,hr]
theorem z8r(rs:List RoundQ)(r:Nat)(hr:r<rs.length):rs[r].rep.length+rs[r].pro.length≤nmL RoundQ.n rs:=z0W RoundQ.n rs r hr
theorem z1J(ds:List RoundE):∀k,(∀j,j<k→vf (ds.getD j z0D).rep 1=0∧vf (ds.getD j z0D).pro 2=0)→k<ds.length→(vf (ds.getD k z0D).rep 1≠0→z0H ds=vf (ds.getD k z0D).rep 1)∧(vf (ds.getD k z0D).rep 1=0→vf (ds.getD k z0D).pro 2≠0→z0H ds=vf (ds.getD k z0D).pro 2):=by
 induction ds with
 |nil=>intro k _ h;simp at h
 |cons x r ih=>
  intro k h0 hk
  cases k with
  |zero=>
   simp only[List.getD_cons_zero];unfold z0H;exact⟨fun h=>by rw[if_neg h],fun h h2=>by rw[if_pos h,if_neg h2]⟩
  |succ k=>
   have hx:=h0 0 (by omega);simp only[List.getD_cons_zero]at hx;have:=ih k (fun j hj=>by simpa using h0 (j+1) (by omega)) (by simpa using hk);simp only[List.getD_cons_succ];rw[show z0H (x::r)=z0H r by rw[z0H,if_pos hx.1,if_pos hx.2]];exact this
theorem z2i(ds:List RoundE)(h:∀j,j<ds.length→vf (ds.getD j z0D).rep 1=0∧vf (ds.getD j z0D).pro 2=0):z0H ds=0:=by
 induction ds with
 |nil=>rfl
 |cons x r ih=>
  have hx:=h 0 (by simp);simp only[List.getD_cons_zero]at hx;rw[z0H,if_pos hx.1,if_pos hx.2];exact ih (fun j hj=>by simpa using h (j+1) (by simpa using hj))
theorem z7S(b o:Nat)(p:InstQ)(w:World)(hP:InstP w b o p)(hl:p.n≤1048576):
  Calls Tryz.prog 79 #[.pointer (some ⟨b,o,none⟩)] w fun e w'=>e=.returned (.int .i64 (shpF p.e))∧Below w.heap.size w w':=by
 have hB:Below w.heap.size w w:=Below.refl _ _;obtain⟨has,vb,y,vr,d,vd,dec⟩:=p;dsimp only[InstQ.n]at hl;have HE:Hid (shpF (InstQ.e ⟨has,vb,y,vr,d,vd,dec⟩)=if has=false∧0 < (y.map TxnQ.e).length then 1 else
  if has=true∧batF (y.map TxnQ.e)≠0 then batF (y.map TxnQ.e)else
  if(d.map RoundQ.e).length<1∨4<(d.map RoundQ.e).length then 2 else
  if z0H (d.map RoundQ.e)=0 then vf dec 1 else z0H (d.map RoundQ.e)):=by
  exact(rfl:shpF _=_)
 generalize shpF (InstQ.e ⟨has,vb,y,vr,d,vd,dec⟩)=E at HE⊢;have hv:=z7Q vb (y.map TxnQ.e) w (z6P hP.batch) (by rw[List.length_map,q0e];omega);have am:∃a c,vb=.slice a y.length c:=hP.batch.shape;have an:∃a c,vr=.slice a d.length c:=hP.rounds.shape;have ap:∃a c,vd=.slice a dec.length c:=hP.dec.shape;obtain⟨ba,bk,rfl⟩:=am;obtain⟨va,vk,rfl⟩:=an
 cases has with
 |false=>
  by_cases h0:0<y.length
  ·have E1:Hid (E=1):=by rw[HE.out,if_pos ⟨rfl,by simpa using h0⟩];rfl
   obtain⟨c0,c1,c2,c3⟩:=hP.box;dsimp only at c0 c1 c2 c3;clear HE hv;go_enter Tryz.func79,Tryz.ntmps79
   go_wp2
   go_ret;exact⟨by rw[E1.out];rfl,hB⟩
  ·have HS:Hid (E=if(d.map RoundQ.e).length<1∨4<(d.map RoundQ.e).length then 2 else if z0H (d.map RoundQ.e)=0 then vf dec 1 else z0H (d.map RoundQ.e)):=by
    have:=HE.out;rw[if_neg (fun h=>h0 (by simpa using h.2)),if_neg (by simp)]at this;exact this
   clear HE;obtain⟨c0,c1,c2,c3⟩:=hP.box;dsimp only at c0 c1 c2 c3;have ao:¬(0:Int)<y.length:=by omega
   go_enter Tryz.func79,Tryz.ntmps79;clear c0 c1 c2 c3;by_cases Y:d.length<1
   ·have E2:Hid (E=2):=by rw[HS.out,if_pos (Or.inl (by simpa using Y))];rfl
    obtain⟨c0,c1,c2,c3⟩:=hP.box;dsimp only at c0 c1 c2 c3;clear HS hv
    go_wp2
    go_ret;exact⟨by rw[E2.out];rfl,hB⟩
   ·by_cases Z:4<d.length
    ·have E2:Hid (E=2):=by rw[HS.out,if_pos (Or.inr (by simpa using Z))];rfl
     obtain⟨c0,c1,c2,c3⟩:=hP.box;dsimp only at c0 c1 c2 c3;clear HS hv
     go_wp2
     go_ret;exact⟨by rw[E2.out];rfl,hB⟩
    ·have N:Hid (E=if z0H (d.map RoundQ.e)=0 then vf dec 1 else z0H (d.map RoundQ.e)):=by
      have:=HS.out;rw[if_neg (by simp only[List.length_map];omega)]at this;exact this
     have ah:¬(d.length:Int)<1:=by omega
     have ai:¬(4:Int)<d.length:=by omega
     clear HS Y Z;obtain⟨c0,c1,c2,c3⟩:=hP.box;dsimp only at c0 c1 c2 c3
     go_wp2
     clear c0 c1 c2 c3;go_loopw[4] (fun j wr=>∃k:Nat,k≤d.length∧j=.int .i64 k∧Hid (∀j,j<k→vf ((d.map RoundQ.e).getD j z0D).rep 1=0∧vf ((d.map RoundQ.e).getD j z0D).pro 2=0)∧Below w.heap.size w wr) (fun j _=>d.length-(intOf j).toNat)
     case atStart=>exact⟨0,Nat.zero_le _,rfl,fun j hj=>absurd hj (Nat.not_lt_zero _),Below.refl _ _⟩
     case round=>
      obtain⟨k,hk,rfl,HA,hb⟩:=hrel;have I:=hP.below hb;have D:=hB.trans (hb.mono hB.size);obtain⟨c0,c1,c2,c3⟩:=I.box;dsimp only at c0 c1 c2 c3;by_cases L:k<d.length
      ·obtain⟨rb,ro,rfl,ak,hc,af⟩:=I.rounds.cell (by decide) k L;have W:∀j x,(roundK.cells d[k])[j]?=some x→wr.cell? ⟨rb,ro+k*2+j,none⟩=some x:=hc;have r0:=W 0 (d[k].vr) rfl;have r1:=W 1 (d[k].vp) rfl;have al:=z8r d k L;have C:=z1J (d.map RoundQ.e) k HA.out (by simpa using L);rw[z07 d k L]at C;dsimp only[RoundQ.e]at C;have T:Hid (vf d[k].rep 1≠0→E=vf d[k].rep 1):=fun h=>by rw[N.out,C.1 h,if_neg h]
       have U:Hid (vf d[k].rep 1=0→vf d[k].pro 2≠0→E=vf d[k].pro 2):=fun h h2=>by rw[N.out,C.2 h h2,if_neg h2]
       have HN:Hid (vf d[k].rep 1=0→vf d[k].pro 2=0→∀j,j<k+1→vf ((d.map RoundQ.e).getD j z0D).rep 1=0∧vf ((d.map RoundQ.e).getD j z0D).pro 2=0):=by
        intro h1 h2 j hj;by_cases ab:j=k
        ·subst ab;rw[z07 d j L];exact⟨h1,h2⟩
        ·exact HA.out j (by omega)
       clear HA C hc W;generalize d[k]=q at*;obtain⟨qv,qr,qw,qp⟩:=q;obtain⟨rA,rP⟩:intK.At wr qv qr∧intK.At wr qw qp:=af;dsimp only at*;obtain⟨ra,rk,rfl⟩:=rA.shape;obtain⟨pa,pk,rfl⟩:=rP.shape;have M:=z0Q ra rk qr 1 wr (z0m rA).2 (by omega);rw[Nat.add_zero]at r0
       go_wp2_with fail
       refine M.mono ?_;rintro e w2 ⟨rfl,z⟩;have O:=I.below z;have A:=D.trans (z.mono D.size);have ae:=World.block_lt_of_cell? wr _ r1;replace r1:=(z.cell (p:=⟨rb,ro+k*2+1,none⟩) ae).trans r1;replace hb:=hb.trans (z.mono hb.size);have X:=z0Q pa pk qp 2 w2 (z0m (rP.below z)).2 (by omega);clear M c0 c1 c2 c3 r0 z I D rA rP;obtain⟨c0,c1,c2,c3⟩:=O.box;dsimp only at c0 c1 c2 c3;by_cases h1:vf qr 1=0
       ·have HF:Hid (vf qp 2≠0→E=vf qp 2):=U.out h1;have HM:Hid (vf qp 2=0→_):=HN.out h1;rw[h1];clear T U HN h1
        go_wp2_with fail
        refine X.mono ?_;rintro e w3 ⟨rfl,V⟩;replace hb:=hb.trans (V.mono hb.size);replace A:=A.trans (V.mono A.size);clear X c0 c1 c2 c3 r1 V O;by_cases h2:vf qp 2=0
        ·have R:=HM.out h2;have HR:Hid _:=R;rw[h2];clear HF HM R h2
         go_wp2
         go_roundw
         case rel=>exact⟨k+1,by omega,by go_num,HR.out,hb⟩
         case measure=>simp[intOf];omega
        ·have E2:Hid (E=vf qp 2):=HF.out h2;have aj:(vf qp 2 !=0)=true:=by simpa using h2
         clear HF HM h2;generalize vf qp 2=r at*
         go_wp2
         go_ret;exact⟨by rw[E2.out];rfl,A⟩
       ·have E2:Hid (E=vf qr 1):=T.out h1;have ag:(vf qr 1 !=0)=true:=by simpa using h1
        clear T U HN h1 X;generalize vf qr 1=r at*
        go_wp2
        go_ret;exact⟨by rw[E2.out];rfl,A⟩
      ·have ad:k=d.length:=by omega
       subst ad;have E2:Hid (E=vf dec 1):=by
        have:=N.out;rw[if_pos (z2i _ (by simpa using HA.out))]at this;exact this
       have J:intK.At wr vd dec:=I.dec;obtain⟨da,dk,rfl⟩:=J.shape;have M:=z0Q da dk dec 1 wr (z0m J).2 (by omega);clear HA N J
       go_wp2_with fail
       refine M.mono ?_;rintro e w2 ⟨rfl,z⟩;replace D:=D.trans (z.mono D.size);generalize vf dec 1=r at*;clear M c0 c1 c2 c3 z I
       go_wp2
       go_ret;exact⟨by rw[E2.out];rfl,D⟩
 |true=>
  obtain⟨c0,c1,c2,c3⟩:=hP.box;dsimp only at c0 c1 c2 c3;go_enter Tryz.func79,Tryz.ntmps79
  go_wp2_with fail
  refine hv.mono ?_;rintro e w1 ⟨rfl,aa⟩;replace hP:=hP.below aa;replace hB:=hB.trans (aa.mono hB.size);clear hv aa c0 c1 c2 c3;by_cases h1:batF (y.map TxnQ.e)=0
  ·have HS:Hid (E=if(d.map RoundQ.e).length<1∨4<(d.map RoundQ.e).length then 2 else if z0H (d.map RoundQ.e)=0 then vf dec 1 else z0H (d.map RoundQ.e)):=by
    have:=HE.out;rw[if_neg (by simp),if_neg (fun h=>h.2 h1)]at this;exact this
   rw[h1];clear HE h1;have hv:=True.intro;by_cases Y:d.length<1
   ·have E2:Hid (E=2):=by rw[HS.out,if_pos (Or.inl (by simpa using Y))];rfl
    obtain⟨c0,c1,c2,c3⟩:=hP.box;dsimp only at c0 c1 c2 c3;clear HS hv
    go_wp2
    go_ret;exact⟨by rw[E2.out];rfl,hB⟩
   ·by_cases Z:4<d.length
    ·have E2:Hid (E=2):=by rw[HS.out,if_pos (Or.inr (by simpa using Z))];rfl
     obtain⟨c0,c1,c2,c3⟩:=hP.box;dsimp only at c0 c1 c2 c3;clear HS hv
     go_wp2
     go_ret;exact⟨by rw[E2.out];rfl,hB⟩
    ·have N:Hid (E=if z0H (d.map RoundQ.e)=0 then vf dec 1 else z0H (d.map RoundQ.e)):=by
      have:=HS.out;rw[if_neg (by simp only[List.length_map];omega)]at this;exact this
     have ah:¬(d.length:Int)<1:=by omega
     have ai:¬(4:Int)<d.length:=by omega
     clear HS Y Z;obtain⟨c0,c1,c2,c3⟩:=hP.box;dsimp only at c0 c1 c2 c3
     go_wp2
     clear c0 c1 c2 c3;go_loopw[4] (fun j wr=>∃k:Nat,k≤d.length∧j=.int .i64 k∧Hid (∀j,j<k→vf ((d.map RoundQ.e).getD j z0D).rep 1=0∧vf ((d.map RoundQ.e).getD j z0D).pro 2=0)∧Below w1.heap.size w1 wr) (fun j _=>d.length-(intOf j).toNat)
     case atStart=>exact⟨0,Nat.zero_le _,rfl,fun j hj=>absurd hj (Nat.not_lt_zero _),Below.refl _ _⟩
     case round=>
      obtain⟨k,hk,rfl,HA,hb⟩:=hrel;have I:=hP.below hb;have D:=hB.trans (hb.mono hB.size);obtain⟨c0,c1,c2,c3⟩:=I.box;dsimp only at c0 c1 c2 c3;by_cases L:k<d.length
      ·obtain⟨rb,ro,rfl,ak,hc,af⟩:=I.rounds.cell (by decide) k L;have W:∀j x,(roundK.cells d[k])[j]?=some x→wr.cell? ⟨rb,ro+k*2+j,none⟩=some x:=hc;have r0:=W 0 (d[k].vr) rfl;have r1:=W 1 (d[k].vp) rfl;have al:=z8r d k L;have C:=z1J (d.map RoundQ.e) k HA.out (by simpa using L);rw[z07 d k L]at C;dsimp only[RoundQ.e]at C;have T:Hid (vf d[k].rep 1≠0→E=vf d[k].rep 1):=fun h=>by rw[N.out,C.1 h,if_neg h]
       have U:Hid (vf d[k].rep 1=0→vf d[k].pro 2≠0→E=vf d[k].pro 2):=fun h h2=>by rw[N.out,C.2 h h2,if_neg h2]
       have HN:Hid (vf d[k].rep 1=0→vf d[k].pro 2=0→∀j,j<k+1→vf ((d.map RoundQ.e).getD j z0D).rep 1=0∧vf ((d.map RoundQ.e).getD j z0D).pro 2=0):=by
        intro h1 h2 j hj;by_cases ab:j=k
        ·subst ab;rw[z07 d j L];exact⟨h1,h2⟩
        ·exact HA.out j (by omega)
       clear HA C hc W;generalize d[k]=q at*;obtain⟨qv,qr,qw,qp⟩:=q;obtain⟨rA,rP⟩:intK.At wr qv qr∧intK.At wr qw qp:=af;dsimp only at*;obtain⟨ra,rk,rfl⟩:=rA.shape;obtain⟨pa,pk,rfl⟩:=rP.shape;have M:=z0Q ra rk qr 1 wr (z0m rA).2 (by omega);rw[Nat.add_zero]at r0
       go_wp2_with fail
       refine M.mono ?_;rintro e w2 ⟨rfl,z⟩;have O:=I.below z;have A:=D.trans (z.mono D.size);have ae:=World.block_lt_of_cell? wr _ r1;replace r1:=(z.cell (p:=⟨rb,ro+k*2+1,none⟩) ae).trans r1;replace hb:=hb.trans (z.mono hb.size);have X:=z0Q pa pk qp 2 w2 (z0m (rP.below z)).2 (by omega);clear M c0 c1 c2 c3 r0 z I D rA rP;obtain⟨c0,c1,c2,c3⟩:=O.box;dsimp only at c0 c1 c2 c3;by_cases h1:vf qr 1=0
       ·have HF:Hid (vf qp 2≠0→E=vf qp 2):=U.out h1;have HM:Hid (vf qp 2=0→_):=HN.out h1;rw[h1];clear T U HN h1
        go_wp2_with fail
        refine X.mono ?_;rintro e w3 ⟨rfl,V⟩;replace hb:=hb.trans (V.mono hb.size);replace A:=A.trans (V.mono A.size);clear X c0 c1 c2 c3 r1 V O;by_cases h2:vf qp 2=0
        ·have R:=HM.out h2;have HR:Hid _:=R;rw[h2];clear HF HM R h2
         go_wp2
         go_roundw
         case rel=>exact⟨k+1,by omega,by go_num,HR.out,hb⟩
         case measure=>simp[intOf];omega
        ·have E2:Hid (E=vf qp 2):=HF.out h2;have aj:(vf qp 2 !=0)=true:=by simpa using h2
         clear HF HM h2;generalize vf qp 2=r at*
         go_wp2
         go_ret;exact⟨by rw[E2.out];rfl,A⟩
       ·have E2:Hid (E=vf qr 1):=T.out h1;have ag:(vf qr 1 !=0)=true:=by simpa using h1
        clear T U HN h1 X;generalize vf qr 1=r at*
        go_wp2
        go_ret;exact⟨by rw[E2.out];rfl,A⟩
      ·have ad:k=d.length:=by omega
       subst ad;have E2:Hid (E=vf dec 1):=by
        have:=N.out;rw[if_pos (z2i _ (by simpa using HA.out))]at this;exact this
       have J:intK.At wr vd dec:=I.dec;obtain⟨da,dk,rfl⟩:=J.shape;have M:=z0Q da dk dec 1 wr (z0m J).2 (by omega);clear HA N J
       go_wp2_with fail
       refine M.mono ?_;rintro e w2 ⟨rfl,z⟩;replace D:=D.trans (z.mono D.size);generalize vf dec 1=r at*;clear M c0 c1 c2 c3 z I
       go_wp2
       go_ret;exact⟨by rw[E2.out];rfl,D⟩
  ·have E1:Hid (E=batF (y.map TxnQ.e)):=by
    have:=HE.out;rw[if_neg (by simp),if_pos ⟨by simp,h1⟩]at this;exact this
   have ag:(batF (y.map TxnQ.e) !=0)=true:=by simpa using h1
   clear HE h1;generalize batF (y.map TxnQ.e)=r at*
   go_wp2
   go_ret;exact⟨by rw[E1.out];rfl,hB⟩
theorem z5U(p:InstQ)(w:World)(h:instK.rd w p)(hl:p.n≤1048576):
  Calls Tryz.prog 115 #[.agg #[.bool p.has,p.vb,p.vr,p.vd]] w fun e w'=>e=.returned (.int .i64 (shpF p.e))∧Below w.heap.size w w':=by
 obtain⟨has,vb,d,vr,c,vd,dec⟩:=p;dsimp only[InstQ.n]at hl;have HE:Hid (shpF (InstQ.e ⟨has,vb,d,vr,c,vd,dec⟩)=if has=false∧0 < (d.map TxnQ.e).length then 1 else
  if has=true∧batF (d.map TxnQ.e)≠0 then batF (d.map TxnQ.e)else
  if(c.map RoundQ.e).length<1∨4<(c.map RoundQ.e).length then 2 else
  if z0H (c.map RoundQ.e)=0 then vf dec 1 else z0H (c.map RoundQ.e)):=by
  exact(rfl:shpF _=_)
 generalize shpF (InstQ.e ⟨has,vb,d,vr,c,vd,dec⟩)=E at HE⊢;obtain⟨hT,hR,hD⟩:txnK.At w vb d∧roundK.At w vr c∧intK.At w vd dec:=h;obtain⟨ba,bk,rfl⟩:=hT.shape;obtain⟨va,vk,rfl⟩:=hR.shape;obtain⟨da,dk,rfl⟩:=hD.shape;have hv:=fun w h=>z5b (.slice ba d.length bk) (d.map TxnQ.e) w h (by rw[List.length_map,q0e];omega)
 have hB:Below w.heap.size w (w.alloc (.cells #[.bool has,.slice ba d.length bk,.slice va c.length vk,.slice da dec.length dk] 44)):=by go_grown
 have Bx:=Blk.new w 44 #[.bool has,.slice ba d.length bk,.slice va c.length vk,.slice da dec.length dk];replace hT:=hT.below hB;replace hR:=hR.below hB;replace hD:=hD.below hB
 cases has with
 |false=>
  by_cases h0:0<d.length
  ·have E1:Hid (E=1):=by rw[HE.out,if_pos ⟨rfl,by simpa using h0⟩];rfl
   clear HE hv;go_enter Tryz.func115,Tryz.ntmps115
   go_wp2
   go_ret;exact⟨by rw[E1.out];rfl,hB⟩
  ·have HS:Hid (E=if(c.map RoundQ.e).length<1∨4<(c.map RoundQ.e).length then 2 else if z0H (c.map RoundQ.e)=0 then vf dec 1 else z0H (c.map RoundQ.e)):=by
    have:=HE.out;rw[if_neg (fun h=>h0 (by simpa using h.2)),if_neg (by simp)]at this;exact this
   clear HE hv;have ai:¬(0:Int)<d.length:=by omega
   go_enter Tryz.func115,Tryz.ntmps115;by_cases T:c.length<1
   ·have E2:Hid (E=2):=by rw[HS.out,if_pos (Or.inl (by simpa using T))];rfl
    clear HS
    go_wp2
    go_ret;exact⟨by rw[E2.out];rfl,hB⟩
   ·by_cases U:4<c.length
    ·have E2:Hid (E=2):=by rw[HS.out,if_pos (Or.inr (by simpa using U))];rfl
     clear HS
     go_wp2
     go_ret;exact⟨by rw[E2.out];rfl,hB⟩
    ·have D:Hid (E=if z0H (c.map RoundQ.e)=0 then vf dec 1 else z0H (c.map RoundQ.e)):=by
      have:=HS.out;rw[if_neg (by simp only[List.length_map];omega)]at this;exact this
     have ad:¬(c.length:Int)<1:=by omega
     have ae:¬(4:Int)<c.length:=by omega
     clear HS T U
     go_wp2
     generalize (w.alloc (.cells #[.bool false,.slice ba d.length bk,.slice va c.length vk,.slice da dec.length dk] 44))=W at*;go_loopw[38] (fun j wr=>∃k:Nat,k≤c.length∧j=.int .i64 k∧Hid (∀j,j<k→vf ((c.map RoundQ.e).getD j z0D).rep 1=0∧vf ((c.map RoundQ.e).getD j z0D).pro 2=0)∧Below W.heap.size W wr) (fun j _=>c.length-(intOf j).toNat)
     case atStart=>exact⟨0,Nat.zero_le _,rfl,fun j hj=>absurd hj (Nat.not_lt_zero _),Below.refl _ _⟩
     case round=>
      obtain⟨k,hk,rfl,HA,hb⟩:=hrel;have A:=hB.trans (hb.mono hB.size);by_cases C:k<c.length
      ·obtain⟨rb,ro,rfl,ag,hc,aa⟩:=(hR.below hb).cell (by decide) k C;have N:∀j x,(roundK.cells c[k])[j]?=some x→wr.cell? ⟨rb,ro+k*2+j,none⟩=some x:=hc;have r0:=N 0 (c[k].vr) rfl;have r1:=N 1 (c[k].vp) rfl;have ah:=z8r c k C;have y:=z1J (c.map RoundQ.e) k HA.out (by simpa using C);rw[z07 c k C]at y;dsimp only[RoundQ.e]at y;have J:Hid (vf c[k].rep 1≠0→E=vf c[k].rep 1):=fun h=>by rw[D.out,y.1 h,if_neg h]
       have L:Hid (vf c[k].rep 1=0→vf c[k].pro 2≠0→E=vf c[k].pro 2):=fun h h2=>by rw[D.out,y.2 h h2,if_neg h2]
       have HN:Hid (vf c[k].rep 1=0→vf c[k].pro 2=0→∀j,j<k+1→vf ((c.map RoundQ.e).getD j z0D).rep 1=0∧vf ((c.map RoundQ.e).getD j z0D).pro 2=0):=by
        intro h1 h2 j hj;by_cases Y:j=k
        ·subst Y;rw[z07 c j C];exact⟨h1,h2⟩
        ·exact HA.out j (by omega)
       clear HA y hc N;generalize c[k]=q at*;obtain⟨qv,qr,qw,qp⟩:=q;obtain⟨rA,rP⟩:intK.At wr qv qr∧intK.At wr qw qp:=aa;dsimp only at*;obtain⟨ra,rk,rfl⟩:=rA.shape;obtain⟨pa,pk,rfl⟩:=rP.shape;have M:Below wr.heap.size wr (wr.alloc (.cells #[.slice ra qr.length rk,.slice pa qp.length pk] 78)):=by go_grown
       have V:=hb.alloc hb.size (.cells #[.slice ra qr.length rk,.slice pa qp.length pk] 78);have A:=A.alloc A.size (.cells #[.slice ra qr.length rk,.slice pa qp.length pk] 78);have Bx:=Blk.new wr 78 #[.slice ra qr.length rk,.slice pa qp.length pk];have z:=z0z ra rk qr 1 _ (z0m (rA.below M)).2 (by omega);have I:=z0z pa pk qp 2 _ (z0m (rP.below M)).2 (by omega);rw[q3T]at z;rw[q4B]at I;rw[Nat.add_zero]at r0;clear rA rP M
       go_wp2_with fail
       generalize wr.alloc (.cells #[.slice ra qr.length rk,.slice pa qp.length pk] 78)=X at*;refine z.mono ?_;rintro e w2 ⟨rfl,hw⟩;replace hw:=hw.symm;subst hw;clear z r0 r1;by_cases h1:vf qr 1=0
       ·have HF:Hid (vf qp 2≠0→E=vf qp 2):=L.out h1;have HM:Hid (vf qp 2=0→_):=HN.out h1;rw[h1];clear J L HN h1;have p1:=Bx.cell 1 _ rfl
        go_wp2_with fail
        refine I.mono ?_;rintro e w2 ⟨rfl,hw⟩;replace hw:=hw.symm;subst hw;clear I p1 Bx;by_cases h2:vf qp 2=0
        ·have R:=HM.out h2;have HR:Hid _:=R;rw[h2];clear HF HM R h2
         go_wp2
         go_roundw
         case rel=>exact⟨k+1,by omega,by go_num,HR.out,V⟩
         case measure=>simp[intOf];omega
        ·have E2:Hid (E=vf qp 2):=HF.out h2;have af:(vf qp 2 !=0)=true:=by simpa using h2
         clear HF HM h2;generalize vf qp 2=r at*
         go_wp2
         go_ret;exact⟨by rw[E2.out];rfl,A⟩
       ·have E2:Hid (E=vf qr 1):=J.out h1;have ab:(vf qr 1 !=0)=true:=by simpa using h1
        clear J L HN h1 I;generalize vf qr 1=r at*
        go_wp2
        go_ret;exact⟨by rw[E2.out];rfl,A⟩
      ·have Z:k=c.length:=by omega
       subst Z;have E2:Hid (E=vf dec 1):=by
        have:=D.out;rw[if_pos (z2i _ (by simpa using HA.out))]at this;exact this
       have Br:=Bx.below hb;have c3:=Br.cell 3 _ rfl;have z:=z0z da dk dec 1 wr (z0m (hD.below hb)).2 (by omega);rw[q3T]at z;clear HA D
       go_wp2_with fail
       refine z.mono ?_;rintro e w2 ⟨rfl,hw⟩;replace hw:=hw.symm;subst hw;generalize vf dec 1=r at*;clear z c3
       go_wp2
       go_ret;exact⟨by rw[E2.out];rfl,A⟩
 |true=>
  go_enter Tryz.func115,Tryz.ntmps115
  go_wp2_with fail
  generalize w.alloc (.cells #[.bool true,.slice ba d.length bk,.slice va c.length vk,.slice da dec.length dk] 44)=W at*;refine(hv W (z6P hT)).mono ?_;rintro e w1 ⟨rfl,O⟩;replace hR:=hR.below O;replace hD:=hD.below O;replace Bx:=Bx.below O;replace hB:=hB.trans (O.mono hB.size);clear hv O hT;by_cases h1:batF (d.map TxnQ.e)=0
  ·have HS:Hid (E=if(c.map RoundQ.e).length<1∨4<(c.map RoundQ.e).length then 2 else if z0H (c.map RoundQ.e)=0 then vf dec 1 else z0H (c.map RoundQ.e)):=by
    have:=HE.out;rw[if_neg (by simp),if_neg (fun h=>h.2 h1)]at this;exact this
   rw[h1];clear HE h1;by_cases T:c.length<1
   ·have E2:Hid (E=2):=by rw[HS.out,if_pos (Or.inl (by simpa using T))];rfl
    clear HS;obtain⟨c0,c1,c2⟩:=Bx.cel3
    go_wp2
    go_ret;exact⟨by rw[E2.out];rfl,hB⟩
   ·by_cases U:4<c.length
    ·have E2:Hid (E=2):=by rw[HS.out,if_pos (Or.inr (by simpa using U))];rfl
     clear HS;obtain⟨c0,c1,c2⟩:=Bx.cel3
     go_wp2
     go_ret;exact⟨by rw[E2.out];rfl,hB⟩
    ·have D:Hid (E=if z0H (c.map RoundQ.e)=0 then vf dec 1 else z0H (c.map RoundQ.e)):=by
      have:=HS.out;rw[if_neg (by simp only[List.length_map];omega)]at this;exact this
     have ad:¬(c.length:Int)<1:=by omega
     have ae:¬(4:Int)<c.length:=by omega
     clear HS T U;obtain⟨c0,c1,c2⟩:=Bx.cel3
     go_wp2
     clear c0 c1 c2;go_loopw[38] (fun j wr=>∃k:Nat,k≤c.length∧j=.int .i64 k∧Hid (∀j,j<k→vf ((c.map RoundQ.e).getD j z0D).rep 1=0∧vf ((c.map RoundQ.e).getD j z0D).pro 2=0)∧Below w1.heap.size w1 wr) (fun j _=>c.length-(intOf j).toNat)
     case atStart=>exact⟨0,Nat.zero_le _,rfl,fun j hj=>absurd hj (Nat.not_lt_zero _),Below.refl _ _⟩
     case round=>
      obtain⟨k,hk,rfl,HA,hb⟩:=hrel;have A:=hB.trans (hb.mono hB.size);by_cases C:k<c.length
      ·obtain⟨rb,ro,rfl,ag,hc,aa⟩:=(hR.below hb).cell (by decide) k C;have N:∀j x,(roundK.cells c[k])[j]?=some x→wr.cell? ⟨rb,ro+k*2+j,none⟩=some x:=hc;have r0:=N 0 (c[k].vr) rfl;have r1:=N 1 (c[k].vp) rfl;have ah:=z8r c k C;have y:=z1J (c.map RoundQ.e) k HA.out (by simpa using C);rw[z07 c k C]at y;dsimp only[RoundQ.e]at y;have J:Hid (vf c[k].rep 1≠0→E=vf c[k].rep 1):=fun h=>by rw[D.out,y.1 h,if_neg h]
       have L:Hid (vf c[k].rep 1=0→vf c[k].pro 2≠0→E=vf c[k].pro 2):=fun h h2=>by rw[D.out,y.2 h h2,if_neg h2]
       have HN:Hid (vf c[k].rep 1=0→vf c[k].pro 2=0→∀j,j<k+1→vf ((c.map RoundQ.e).getD j z0D).rep 1=0∧vf ((c.map RoundQ.e).getD j z0D).pro 2=0):=by
        intro h1 h2 j hj;by_cases Y:j=k
        ·subst Y;rw[z07 c j C];exact⟨h1,h2⟩
        ·exact HA.out j (by omega)
       clear HA y hc N;generalize c[k]=q at*;obtain⟨qv,qr,qw,qp⟩:=q;obtain⟨rA,rP⟩:intK.At wr qv qr∧intK.At wr qw qp:=aa;dsimp only at*;obtain⟨ra,rk,rfl⟩:=rA.shape;obtain⟨pa,pk,rfl⟩:=rP.shape;have M:Below wr.heap.size wr (wr.alloc (.cells #[.slice ra qr.length rk,.slice pa qp.length pk] 78)):=by go_grown
       have V:=hb.alloc hb.size (.cells #[.slice ra qr.length rk,.slice pa qp.length pk] 78);have A:=A.alloc A.size (.cells #[.slice ra qr.length rk,.slice pa qp.length pk] 78);have Bx:=Blk.new wr 78 #[.slice ra qr.length rk,.slice pa qp.length pk];have z:=z0z ra rk qr 1 _ (z0m (rA.below M)).2 (by omega);have I:=z0z pa pk qp 2 _ (z0m (rP.below M)).2 (by omega);rw[q3T]at z;rw[q4B]at I;rw[Nat.add_zero]at r0;clear rA rP M
       go_wp2_with fail
       generalize wr.alloc (.cells #[.slice ra qr.length rk,.slice pa qp.length pk] 78)=X at*;refine z.mono ?_;rintro e w2 ⟨rfl,hw⟩;replace hw:=hw.symm;subst hw;clear z r0 r1;by_cases h1:vf qr 1=0
       ·have HF:Hid (vf qp 2≠0→E=vf qp 2):=L.out h1;have HM:Hid (vf qp 2=0→_):=HN.out h1;rw[h1];clear J L HN h1;have p1:=Bx.cell 1 _ rfl
        go_wp2_with fail
        refine I.mono ?_;rintro e w2 ⟨rfl,hw⟩;replace hw:=hw.symm;subst hw;clear I p1 Bx;by_cases h2:vf qp 2=0
        ·have R:=HM.out h2;have HR:Hid _:=R;rw[h2];clear HF HM R h2
         go_wp2
         go_roundw
         case rel=>exact⟨k+1,by omega,by go_num,HR.out,V⟩
         case measure=>simp[intOf];omega
        ·have E2:Hid (E=vf qp 2):=HF.out h2;have af:(vf qp 2 !=0)=true:=by simpa using h2
         clear HF HM h2;generalize vf qp 2=r at*
         go_wp2
         go_ret;exact⟨by rw[E2.out];rfl,A⟩
       ·have E2:Hid (E=vf qr 1):=J.out h1;have ab:(vf qr 1 !=0)=true:=by simpa using h1
        clear J L HN h1 I;generalize vf qr 1=r at*
        go_wp2
        go_ret;exact⟨by rw[E2.out];rfl,A⟩
      ·have Z:k=c.length:=by omega
       subst Z;have E2:Hid (E=vf dec 1):=by
        have:=D.out;rw[if_pos (z2i _ (by simpa using HA.out))]at this;exact this
       have Br:=Bx.below hb;have c3:=Br.cell 3 _ rfl;have z:=z0z da dk dec 1 wr (z0m (hD.below hb)).2 (by omega);rw[q3T]at z;clear HA D
       go_wp2_with fail
       refine z.mono ?_;rintro e w2 ⟨rfl,hw⟩;replace hw:=hw.symm;subst hw;generalize vf dec 1=r at*;clear z c3
       go_wp2
       go_ret;exact⟨by rw[E2.out];rfl,A⟩
  ·have E1:Hid (E=batF (d.map TxnQ.e)):=by
    have:=HE.out;rw[if_neg (by simp),if_pos ⟨by simp,h1⟩]at this;exact this
   have ab:(batF (d.map TxnQ.e) !=0)=true:=by simpa using h1
   clear HE h1;generalize batF (d.map TxnQ.e)=r at*
   go_wp2
   go_ret;exact⟨by rw[E1.out];rfl,hB⟩
abbrev iv(n:Int):Value:=.int .i64 n
def Wel(rs:List RoundE):Prop:=∀r∈rs,r.rep.length=3∧r.pro.length=3
def z1f(r:RoundE):List Value:=(r.rep++r.pro).map iv
def z3i(rs:List RoundE):List Value:=rs.flatMap z1f
def rndC(rs:List RoundE):List Value:=iv rs.length::(z3i rs++List.replicate (24-6*rs.length) (iv 0))
def brdC(has:Bool)(vb:Value)(rs:List RoundE)(dec:List Int):List Value:=rndC rs++([.bool has,vb]++dec.map iv)
theorem z0R{r:RoundE}(h:r.rep.length=3∧r.pro.length=3):(z1f r).length=6:=by simp[z1f,h.1,h.2]
theorem z16{rs:List RoundE}(h:Wel rs):(z3i rs).length=rs.length*6:=by
 induction rs with
 |nil=>rfl
 |cons r t ih=>
  have h1:=ih (fun x hx=>h x (List.mem_cons_of_mem _ hx));have h2:=z0R (h r (by simp));simp only[z3i,List.flatMap_cons,List.length_append,List.length_cons]at h1⊢;omega
theorem z0v{rs:List RoundE}(h:Wel rs)(h4:rs.length≤4):(rndC rs).length=25:=by
 have:=z16 h;simp only[rndC,List.length_cons,List.length_append,List.length_replicate];omega
theorem z2C{has:Bool}{vb:Value}{rs:List RoundE}{dec:List Int}(h:Wel rs)(h4:rs.length≤4)(hd:dec.length=3):(brdC has vb rs dec).length=30:=by
 have:=z0v h h4;simp only[brdC,List.length_append,List.length_cons,List.length_nil,List.length_map];omega
theorem q0k{rs:List RoundE}(h:Wel rs)(r:Nat)(hr:r<rs.length)(j:Nat)(hj:j<6):(z3i rs)[r*6+j]?=(z1f (rs.getD r z0D))[j]?:=by
 induction rs generalizing r with
 |nil=>simp at hr
 |cons q t ih=>
  have hq:=z0R (h q (by simp));simp only[z3i,List.flatMap_cons]
  cases r with
  |zero=>
   rw[List.getElem?_append_left (by omega)];simp
  |succ r=>
   rw[List.getElem?_append_right (by omega),hq,show(r+1)*6+j-6=r*6+j by omega];have:=ih (fun x hx=>h x (List.mem_cons_of_mem _ hx)) r (by simpa using hr);simpa[z3i]using this
theorem z2T{rs:List RoundE}(h:Wel rs)(r:Nat)(hr:r<rs.length):(rs.getD r z0D).rep.length=3∧(rs.getD r z0D).pro.length=3:=by
 have e:rs.getD r z0D=rs[r]:=by simp[List.getD,hr]
 rw[e];exact h _ (List.getElem_mem hr)
theorem q1K{q:RoundE}(h:q.rep.length=3∧q.pro.length=3)(n:Nat)(hn:n<3):(z1f q)[n]?=some (iv (q.rep.getD n 0)):=by
 unfold z1f;rw[List.getElem?_map,List.getElem?_append_left (by omega),List.getElem?_eq_getElem (by omega)];simp[List.getD,show n<q.rep.length by omega]
theorem z8s{q:RoundE}(h:q.rep.length=3∧q.pro.length=3)(n:Nat)(hn:n<3):(z1f q)[3+n]?=some (iv (q.pro.getD n 0)):=by
 unfold z1f;rw[List.getElem?_map,List.getElem?_append_right (by omega),h.1,show 3+n-3=n by omega,List.getElem?_eq_getElem (by omega)];simp[List.getD,show n<q.pro.length by omega]
theorem q0l(rs:List RoundE):(rndC rs)[0]?=some (iv rs.length):=rfl
theorem q0m{rs:List RoundE}(h:Wel rs)(r:Nat)(hr:r<rs.length)(j:Nat)(hj:j<6):(rndC rs)[1+r*6+j]?=(z1f (rs.getD r z0D))[j]?:=by
 have hl:=z16 h;unfold rndC;rw[show 1+r*6+j=(r*6+j)+1 by omega,List.getElem?_cons_succ,List.getElem?_append_left (by omega),q0k h r hr j hj]
theorem z7T{rs:List RoundE}(h:Wel rs)(r:Nat)(hr:r<rs.length)(n:Nat)(hn:n<3):(rndC rs)[1+r*6+n]?=some (iv (repA rs r n)):=by
 rw[q0m h r hr n (by omega),q1K (z2T h r hr) n hn];rfl
theorem z7U{rs:List RoundE}(h:Wel rs)(r:Nat)(hr:r<rs.length)(n:Nat)(hn:n<3):(rndC rs)[1+r*6+3+n]?=some (iv (proA rs r n)):=by
 rw[show 1+r*6+3+n=1+r*6+(3+n) by omega,q0m h r hr (3+n) (by omega),z8s (z2T h r hr) n hn];rfl
theorem z5V{has:Bool}{vb:Value}{rs:List RoundE}{dec:List Int}(h:Wel rs)(h4:rs.length≤4)(j:Nat)(hj:j<25):(brdC has vb rs dec)[j]?=(rndC rs)[j]?:=by
 have:=z0v h h4;unfold brdC;rw[List.getElem?_append_left (by omega)]
theorem q3d{has:Bool}{vb:Value}{rs:List RoundE}{dec:List Int}(h:Wel rs)(h4:rs.length≤4):(brdC has vb rs dec)[25]?=some (.bool has):=by
 have:=z0v h h4;unfold brdC;rw[List.getElem?_append_right (by omega),this];rfl
theorem q0n{has:Bool}{vb:Value}{rs:List RoundE}{dec:List Int}(h:Wel rs)(h4:rs.length≤4)(hd:dec.length=3)(n:Nat)(hn:n<3):(brdC has vb rs dec)[27+n]?=some (iv (dec.getD n 0)):=by
 have:=z0v h h4;unfold brdC;rw[List.getElem?_append_right (by omega),this,show 27+n-25=n+2 by omega];simp[List.getD,show n<dec.length by omega]
theorem z2U:(Tryz.prog.info? 147).map (·.size)=some 25:=by kernel_rfl
theorem z2V:(Tryz.prog.info? 149).map (·.size)=some 30:=by kernel_rfl
theorem z5u:(Tryz.prog.info? 142).map (·.size)=some 3:=by kernel_rfl
theorem q0o:(Tryz.prog.info? 144).map (·.size)=some 6:=by kernel_rfl
theorem rng{w:World}{b o:Nat}{t:TypeId}{cs:Array Value}(hB:Blk w b t cs)(L:List Value)(h:∀j v,L[j]?=some v→cs[o+j]?=some v):w.rangeAt b o L:=fun j v hv=>hB.cell (o+j) v (h j v hv)
theorem q3Y{w:World}{b o:Nat}(L:List Value)(ty:TypeId)(d:TypeDesc)(hr:w.rangeAt b o L)(hlt:b<w.heap.size)(hu:Tryz.prog.underlying ty=some d)(hd:d.isRow=true)(hi:(Tryz.prog.info? ty).map (·.size)=some L.length):
  ∀u:Lat w,(Instr.loadAt ty (.pointer (some ⟨b,o,none⟩))).run Tryz.prog u.val=.ok (.agg L.toArray) u.val:=fun u=>by
 refine run_loadAt_mid u.val b o ty L d (fun j v hv=>?_) hu hd hi;rw[u.isBelow.cell (p:=⟨b,o+j,none⟩) hlt];exact hr j v hv
section
variable {ops:Array Oper} {rest:List Oper} {op:Oper} {a:Act} {w:World} {Q:Exit→Act→World→Prop}
theorem z9b(hw:Region.wanted op (yielded ops a.tmps)=true)(ty:TypeId)(x:Operand)(ho:op.op=.load ty x)
  (b o:Nat) (hx:a.eval x=.pointer (some ⟨b,o,none⟩)) (cs:List Value) (d:TypeDesc) (hc:w.rangeAt b o cs)
  (hu:Tryz.prog.underlying ty=some d) (hd:d.isRow=true) (hi:(Tryz.prog.info? ty).map (·.size)=some cs.length)
  (h:wpList Tryz.prog ops Q rest (a.put op.dst (.agg cs.toArray)) w):wpList Tryz.prog ops Q (op::rest) a w:=by
 simp only[wpList];rw[if_pos hw];exact Or.inl (wp_load_mid ty x ho b o hx cs d hc hu hd hi h)
theorem st_g(hw:Region.wanted op (yielded ops a.tmps)=true)(ty:TypeId)(x y:Operand)(ho:op.op=.store ty x y)
  (b o:Nat) (cells:Array Value) (hx:a.eval x=.pointer (some ⟨b,o,none⟩)) (hy:a.eval y=.agg cells)
  (ht:w.there b o cells.size) (hi:(Tryz.prog.info? ty).map (·.size)=some cells.size) (h1:cells.all (·.oneCell')=true)
  (h:wpList Tryz.prog ops Q rest (a.put op.dst undef) (w.setCells b o cells.toList)):wpList Tryz.prog ops Q (op::rest) a w:=by
 simp only[wpList];rw[if_pos hw];exact Or.inl (wp_store_mid ty x y ho b o cells hx hy ht hi h1 h)
end
theorem z2D(rs:List RoundE)(r n:Nat)(w:World)(h:Wel rs)(h4:rs.length≤4)(hr:r<rs.length)(hn:n<3):
  Calls Tryz.prog 172 #[.agg (rndC rs).toArray,.int .i64 (r:Int),.int .i64 (n:Int)] w fun e w'=>e=.returned (.bool (proA rs r n !=3))∧Below w.heap.size w w':=by
 have hp:=z7U h r hr n hn;have hl:=z0v h h4;generalize proA rs r n=P at*;generalize rndC rs=cs at*;have hr4:(r:Int)<4:=by omega
 have hn3:(n:Int)<3:=by omega
 go_enter Tryz.func172,Tryz.ntmps172
 go_wp2
 go_ret;exact⟨rfl,by go_grown⟩
theorem z5W(rs:List RoundE)(r n:Nat)(w:World)(h:Wel rs)(h4:rs.length≤4)(hn:n<3):
  Calls Tryz.prog 175 #[.agg (rndC rs).toArray,.int .i64 (r:Int),.int .i64 (n:Int)] w fun e w'=>e=.returned (.bool (decide (r<rs.length) && (repA rs r n !=3)))∧Below w.heap.size w w':=by
 have hc:=q0l rs;have hn3:(n:Int)<3:=by omega
 by_cases hr:r<rs.length
 ·have hp:=z7T h r hr n hn;have hr4:(r:Int)<4:=by omega
  have hd:decide (r<rs.length)=true:=decide_eq_true hr;rw[hd,Bool.true_and];generalize repA rs r n=P at*;generalize rs.length=c at*;generalize rndC rs=cs at*;clear hd;go_enter Tryz.func175,Tryz.ntmps175
  go_wp2
  go_ret;exact⟨rfl,by go_grown⟩
 ·have hd:decide (r<rs.length)=false:=decide_eq_false hr;rw[hd,Bool.false_and];generalize rs.length=c at*;generalize rndC rs=cs at*;clear hd;go_enter Tryz.func175,Tryz.ntmps175
  go_wp2
  go_ret;exact⟨rfl,by go_grown⟩
theorem q2o:(Tryz.prog.info? 2).map (fun i=>(i.zero,i.size,i.bytes))=some (some (.int .i64 0),1,8):=by kernel_rfl
theorem z9c(b y cap:Nat)(zs:List Int)(w:World)(h:Row .i64 w (some ⟨b,y,none⟩) zs)(h0:0<zs.length)(hl:zs.length≤1048576):
  Calls Tryz.prog 195 #[.slice (some ⟨b,y,none⟩) zs.length cap] w fun e w'=>∃a c,e=.returned (.slice a zs.length c)∧
   w'.ownsRow w.heap.size 2 1 (.slice a zs.length c) zs.length (zs.map iv)∧Below w.heap.size w w':=by
 obtain⟨i0,hi,D,E,I⟩:=info_parts q2o;have hs:=z2R (Lies.below (z4o h) (w':=w.alloc (.cells #[] 2)) (by go_grown));have C:(zs.map iv).length=zs.length*1:=by simp
 have ho:=World.ownsRow_lit (e:=2) (size:=1) w #[] 0 (Nat.le_refl _) (by decide) rfl;have HS:Hid (∀j u,(zs.map iv)[j]?=some u→_):=hs;clear hs;have J:∀w,(binOp .eql 42 (.slice (some ⟨b,y,none⟩) zs.length cap) (.slice none 0 0)).run Tryz.prog w=.ok (.bool false) w:=fun w=>by first|rfl|kernel_rfl|(simp only[binOp];simp[Op.equal,Op.maxDepth,Op.equalIn,run_underlying Tryz.underlying42])
 go_enter Tryz.func195,Tryz.ntmps195
 go_wp2_with (at_builtin;refine wpList_append_own _ rfl _ _ 42 rfl w.heap.size 2 i0 (.int .i64 0) 1 8 Tryz.underlying42 hi D E I rfl (by decide) _ 0 [] rfl ho ⟨b,y,none⟩ zs.length cap (zs.map iv) rfl C HS.out ?c2 ?c3 ?c4 ?c5 ?_)
 all_goals try(case c2=>first|(intro u hu;obtain⟨z,_,rfl⟩:=List.mem_map.1 hu;rfl)|(intro u hu;rfl))
 all_goals try(case c3=>unfold maxLen;omega)
 all_goals try(case c4=>omega)
 all_goals try(case c5=>simp)
 intro v' w2 x d _;obtain⟨a2,c2,rfl⟩:=z0g x;have A:Below w.heap.size w w2:=((Below.refl _ _).alloc (Nat.le_refl _) _).grown d (by simp) (fun k hk=>by simp[Value.ownBlock]at hk;omega);try simp only[Nat.zero_add]at x
 clear d HS ho
 go_wp2
 go_ret;exact⟨a2,c2,rfl,by simpa using x,A⟩
theorem q1L{w':World}{base n c:Nat}{a:Option Addr}{zs:List Int}(hn:n=zs.length)(h:w'.ownsRow base 2 1 (.slice a n c) n (zs.map iv)):intK.Own w' (.slice a n c) zs∧(∀k∈intK.fp (.slice a n c) zs,base≤k):=by
 subst hn;obtain⟨o,hk⟩:=z0y h;refine⟨⟨by rw[z5J];exact o,fun _ _=>trivial⟩,?_⟩;rw[z7F];exact hk
theorem z4a(zs:List Int)(w:World)(h3:zs.length=3):
  Calls Tryz.prog 174 #[.agg (zs.map iv).toArray] w fun e w'=>∃a c,e=.returned (.slice a 3 c)∧intK.Own w' (.slice a 3 c) zs∧(∀k∈intK.fp (.slice a 3 c) zs,w.heap.size≤k)∧Row .i64 w' a zs∧Below w.heap.size w w':=by
 have hB:Below w.heap.size w (w.alloc (.cells (zs.map iv).toArray 142)):=by go_grown
 have hR:Row .i64 (w.alloc (.cells (zs.map iv).toArray 142)) (some ⟨w.heap.size,0,none⟩) zs:=by
  intro i hi;refine⟨_,_,rfl,by simp,?_⟩;have:=(Blk.new w 142 (zs.map iv).toArray).cell i (iv (zs.getD i 0)) (by simp[List.getD,hi]);rw[Nat.zero_add];exact this
 have hcl:=z9c w.heap.size 0 3 zs _ hR (by omega) (by omega);rw[h3]at hcl;go_enter Tryz.func174,Tryz.ntmps174
 go_wp2_with fail
 refine hcl.mono ?_;rintro e w2 ⟨a,c,rfl,ho,hb⟩;obtain⟨O,G⟩:=q1L h3.symm ho;have hRR:=Row.own ho;have G2:Hid (∀k∈intK.fp (.slice a 3 c) zs,w.heap.size≤k):=fun k hk=>Nat.le_trans (by simp) (G k hk)
 replace hB:=hB.trans (hb.mono hB.size);clear hcl ho hb G
 go_wp2
 go_ret;exact⟨a,c,rfl,O,G2.out,hRR,hB⟩
section
variable {has:Bool} {vb:Value} {rs:List RoundE} {dec:List Int} {w:World} {b:Nat} {t:TypeId}
theorem z3j (h:Wel rs) (h4:rs.length≤4) (hB:Blk w b t (brdC has vb rs dec).toArray):w.rangeAt b 0 (rndC rs):=rng hB _ (fun j v hv=>by
 have hj:=(List.getElem?_eq_some_iff.1 hv).1;rw[z0v h h4]at hj;rw[Nat.zero_add,List.getElem?_toArray,z5V h h4 j hj];exact hv)
theorem row_get{zs:List Int}(hl:zs.length=3){j:Nat}{v:Value}(hv:(zs.map iv)[j]?=some v):j<3∧v=iv (zs.getD j 0):=by
 have hj:j<zs.length:=by have:=(List.getElem?_eq_some_iff.1 hv).1;simpa using this
 refine⟨by omega,?_⟩;rw[List.getElem?_map,List.getElem?_eq_getElem hj]at hv;simp only[Option.map_some,Option.some.injEq]at hv;rw[←hv];simp[List.getD,hj]
theorem q1M(h:Wel rs)(r:Nat)(hr:r<rs.length):∀j v,((rs.getD r z0D).pro.map iv)[j]?=some v→(rndC rs)[1+r*6+3+j]?=some v:=by
 intro j v hv;obtain⟨hj,rfl⟩:=row_get (z2T h r hr).2 hv;exact z7U h r hr j hj
theorem q1N(h:Wel rs)(r:Nat)(hr:r<rs.length):∀j v,((rs.getD r z0D).rep.map iv)[j]?=some v→(rndC rs)[1+r*6+j]?=some v:=by
 intro j v hv;obtain⟨hj,rfl⟩:=row_get (z2T h r hr).1 hv;exact z7T h r hr j hj
theorem z8t (h:Wel rs) (h4:rs.length≤4) (r:Nat) (hr:r < rs.length) (hB:Blk w b t (brdC has vb rs dec).toArray):w.rangeAt b (1 + r * 6 + 3) ((rs.getD r z0D).pro.map iv):=rng hB _ (fun j v hv=>by
 have h1:=q1M h r hr j v hv;have hj:=(List.getElem?_eq_some_iff.1 h1).1;rw[z0v h h4]at hj;rw[List.getElem?_toArray,z5V h h4 _ hj];exact h1)
end
theorem z3k(has:Bool)(vb:Value)(rs:List RoundE)(dec:List Int)(r n:Nat)(w:World)(hG:Rul w)(h:Wel rs)(h4:rs.length≤4)(hd:dec.length=3)(hr:r<rs.length)(hn:n<3):
  Calls Tryz.prog 141 #[.agg (brdC has vb rs dec).toArray,.int .i64 (r:Int),.int .i64 (n:Int)] w fun e w'=>e=.returned (.bool (repI has rs r n))∧Below w.heap.size w w':=by
 have hB:=Blk.new w 149 (brdC has vb rs dec).toArray;have D:Below w.heap.size w (w.alloc (.cells (brdC has vb rs dec).toArray 149)):=by go_grown
 have c1:(brdC has vb rs dec)[1+r*6+n]?=some (iv (repA rs r n)):=by
  have h1:=z7T h r hr n hn;rw[z5V h h4 _ (by omega)];exact h1
 have c2:=q3d (has:=has) (vb:=vb) (dec:=dec) h h4;generalize hE:repI has rs r n=E;have HE:Hid (E=if repA rs r n=1∧has=false then false else if repA rs r n=3∨r=0 then true else q1q rs r n):=hE.symm;clear hE;have am:(r:Int)<4:=by omega
 have al:(n:Int)<3:=by omega
 by_cases h1:repA rs r n=1
 ·cases has with
  |false=>
   have E2:Hid (E=false):=by rw[HE.out,if_pos ⟨h1,rfl⟩];rfl
   rw[h1]at c1;clear HE hB h1;generalize brdC false vb rs dec=cs at*;go_enter Tryz.func141,Tryz.ntmps141
   go_wp2
   go_ret;exact⟨by rw[E2.out];rfl,D⟩
  |true=>
   have c:Hid (E=if repA rs r n=3∨r=0 then true else q1q rs r n):=by
    have:=HE.out;rw[if_neg (by simp)]at this;exact this
   rw[h1]at c1;obtain⟨R,C⟩:∃R:Int,R=1:=⟨1,rfl⟩
   have d:Hid (R=repA rs r n):=C.trans h1.symm;have ah:(R==3)=false:=by rw[C];rfl
   have ak:(R==1)=true:=by rw[C];rfl
   rw[←C]at c1;have T:¬R=3:=by omega
   clear HE h1 C;by_cases ad:r=0
   ·have E2:Hid (E=true):=by rw[c.out,if_pos (Or.inr ad)];rfl
    subst ad;simp only[Nat.zero_mul,Nat.add_zero,Nat.zero_add]at c1;clear c d;generalize brdC true vb rs dec=cs at*;go_enter Tryz.func141,Tryz.ntmps141
    go_wp2
    go_ret;exact⟨by rw[E2.out];rfl,D⟩
   ·obtain⟨s,rfl⟩:∃s,r=s+1:=⟨r-1,by omega⟩
    have HS:Hid (E=((proA rs s n !=3) && mayR (rs.getD s z0D).pro R)):=by rw[c.out,if_neg (by rw[←d.out];omega),d.out];exact(rfl:_=_)
    have hs:s<rs.length:=by omega
    have aa:=fun w=>z2D rs s n w h h4 hs hn
    have ae:=z3j h h4 hB;have J:(Tryz.prog.info? 147).map (·.size)=some (rndC rs).length:=by rw[z0v h h4];exact z2U
    have af:=z2T h s hs;have N:=z4a (rs.getD s z0D).pro;have Z:=hB.lt;have aj:¬((s:Int)+1=0):=by omega
    have x:=z8t h h4 s hs hB;have y:(Tryz.prog.info? 142).map (·.size)=some ((rs.getD s z0D).pro.map iv).length:=by rw[List.length_map,af.2];exact z5u
    have ab:=af.2;clear c d;generalize (rs.getD s z0D).pro=qp at*;generalize proA rs s n=A at*;generalize rndC rs=ds at*;go_enter Tryz.func141,Tryz.ntmps141;generalize brdC true vb rs dec=cs at*
    go_wp2_with (refine z9b (by kernel_rfl) 147 _ rfl _ _ rfl ds _ ae Tryz.underlying147 rfl J ?_)
    clear ae J;generalize w.alloc (.cells cs.toArray 149)=W at*;refine(aa W).mono ?_;rintro e w1 ⟨rfl,U⟩;have L:=D.trans (U.mono D.size);clear aa;by_cases hA:A=3
    ·have E2:Hid (E=false):=by rw[HS.out,hA];rfl
     have z:(A !=3)=false:=by simp[hA]
     rw[z];clear HS N x y hA
     go_wp2
     go_ret;exact⟨by rw[E2.out];rfl,L⟩
    ·have z:(A !=3)=true:=by simpa using hA
     rw[z]at HS;rw[z];have ai:=Z;have I:w1.rangeAt w.heap.size (1+s*6+3) (qp.map iv):=fun j v hv=>by rw[U.cell (p:=⟨w.heap.size,1+s*6+3+j,none⟩) Z];exact x j v hv
     clear x hA
     go_wp2_with (refine z9b (by kernel_rfl) 142 _ rfl _ _ rfl (qp.map iv) _ I Tryz.underlying142 rfl y ?_)
     clear I y;refine(N w1 ab).mono ?_;rintro e w2 ⟨la,lc,rfl,lO,lG,lR,V⟩;have M:=L.trans (V.mono L.size);have O:=z3D la lc qp R w2 (hG.below M) lR (by omega);rw[ab]at O;generalize mayR qp R=Y at*;clear N lO lG V
     go_wp2_with fail
     refine O.mono ?_;rintro e w3 ⟨rfl,X⟩;have ag:=M.trans (X.mono M.size);clear O X;have E2:Hid (E=Y):=by rw[HS.out];exact(rfl:_=_)
     clear HS
     go_wp2
     go_ret;exact⟨by rw[E2.out];rfl,ag⟩
 ·have c:Hid (E=if repA rs r n=3∨r=0 then true else q1q rs r n):=by
   have:=HE.out;rw[if_neg (fun e=>h1 e.1)]at this;exact this
  generalize C:repA rs r n=R at c1 h1;have d:Hid (R=repA rs r n):=C.symm;have ak:(R==1)=false:=by simpa using h1
  clear HE h1 C;by_cases T:R=3
  ·have E2:Hid (E=true):=by rw[c.out,if_pos (Or.inl (by rw[←d.out];exact T))];rfl
   have ah:(R==3)=true:=by simp[T]
   clear c d T;generalize brdC has vb rs dec=cs at*;go_enter Tryz.func141,Tryz.ntmps141
   go_wp2
   go_ret;exact⟨by rw[E2.out];rfl,D⟩
  ·have ah:(R==3)=false:=by simpa using T
   by_cases ad:r=0
   ·have E2:Hid (E=true):=by rw[c.out,if_pos (Or.inr ad)];rfl
    subst ad;simp only[Nat.zero_mul,Nat.add_zero,Nat.zero_add]at c1;clear c d;generalize brdC has vb rs dec=cs at*;go_enter Tryz.func141,Tryz.ntmps141
    go_wp2
    go_ret;exact⟨by rw[E2.out];rfl,D⟩
   ·obtain⟨s,rfl⟩:∃s,r=s+1:=⟨r-1,by omega⟩
    have HS:Hid (E=((proA rs s n !=3) && mayR (rs.getD s z0D).pro R)):=by rw[c.out,if_neg (by rw[←d.out];omega),d.out];exact(rfl:_=_)
    have hs:s<rs.length:=by omega
    have aa:=fun w=>z2D rs s n w h h4 hs hn
    have ae:=z3j h h4 hB;have J:(Tryz.prog.info? 147).map (·.size)=some (rndC rs).length:=by rw[z0v h h4];exact z2U
    have af:=z2T h s hs;have N:=z4a (rs.getD s z0D).pro;have Z:=hB.lt;have aj:¬((s:Int)+1=0):=by omega
    have x:=z8t h h4 s hs hB;have y:(Tryz.prog.info? 142).map (·.size)=some ((rs.getD s z0D).pro.map iv).length:=by rw[List.length_map,af.2];exact z5u
    have ab:=af.2;clear c d;generalize (rs.getD s z0D).pro=qp at*;generalize proA rs s n=A at*;generalize rndC rs=ds at*;go_enter Tryz.func141,Tryz.ntmps141;generalize brdC has vb rs dec=cs at*
    go_wp2_with (refine z9b (by kernel_rfl) 147 _ rfl _ _ rfl ds _ ae Tryz.underlying147 rfl J ?_)
    clear ae J;generalize w.alloc (.cells cs.toArray 149)=W at*;refine(aa W).mono ?_;rintro e w1 ⟨rfl,U⟩;have L:=D.trans (U.mono D.size);clear aa;by_cases hA:A=3
    ·have E2:Hid (E=false):=by rw[HS.out,hA];rfl
     have z:(A !=3)=false:=by simp[hA]
     rw[z];clear HS N x y hA
     go_wp2
     go_ret;exact⟨by rw[E2.out];rfl,L⟩
    ·have z:(A !=3)=true:=by simpa using hA
     rw[z]at HS;rw[z];have ai:=Z;have I:w1.rangeAt w.heap.size (1+s*6+3) (qp.map iv):=fun j v hv=>by rw[U.cell (p:=⟨w.heap.size,1+s*6+3+j,none⟩) Z];exact x j v hv
     clear x hA
     go_wp2_with (refine z9b (by kernel_rfl) 142 _ rfl _ _ rfl (qp.map iv) _ I Tryz.underlying142 rfl y ?_)
     clear I y;refine(N w1 ab).mono ?_;rintro e w2 ⟨la,lc,rfl,lO,lG,lR,V⟩;have M:=L.trans (V.mono L.size);have O:=z3D la lc qp R w2 (hG.below M) lR (by omega);rw[ab]at O;generalize mayR qp R=Y at*;clear N lO lG V
     go_wp2_with fail
     refine O.mono ?_;rintro e w3 ⟨rfl,X⟩;have ag:=M.trans (X.mono M.size);clear O X;have E2:Hid (E=Y):=by rw[HS.out];exact(rfl:_=_)
     clear HS
     go_wp2
     go_ret;exact⟨by rw[E2.out];rfl,ag⟩
theorem z4u(rs:List RoundE)(r n:Nat)(w:World)(hG:Rul w)(h:Wel rs)(h4:rs.length≤4)(hr:r<rs.length)(hn:n<3):
  Calls Tryz.prog 142 #[.agg (rndC rs).toArray,.int .i64 (r:Int),.int .i64 (n:Int)] w fun e w'=>e=.returned (.bool (proR rs r n))∧Below w.heap.size w w':=by
 have B:=Blk.new w 147 (rndC rs).toArray;have d:Below w.heap.size w (w.alloc (.cells (rndC rs).toArray 147)):=by go_grown
 have V:=z2T h r hr;have N:=V.1;have z:=fun w=>z2D rs r n w h h4 hr hn
 have y:=fun w=>z5W rs r n w h h4 hn
 rw[decide_eq_true hr]at y;simp only[Bool.true_and]at y;have I:=z4a (rs.getD r z0D).rep;have C:=fun la lc w hG hR=>z6L la lc (rs.getD r z0D).rep (proA rs r n) w hG hR (by omega)
 rw[N]at C;have O:=B.lt;have A:=q3Y (rndC rs) 147 _ (rng B (rndC rs) (o:=0) (fun j v hv=>by rw[Nat.zero_add,List.getElem?_toArray];exact hv)) O Tryz.underlying147 rfl (by rw[z0v h h4];exact z2U);have J:=q3Y ((rs.getD r z0D).rep.map iv) 142 _ (rng B _ (o:=1+r*6) (fun j v hv=>by rw[List.getElem?_toArray];exact q1N h r hr j v hv)) O Tryz.underlying142 rfl (by rw[List.length_map,N];exact z5u);have cp:=z0a (B.cell (1+r*6+3+n) (iv (proA rs r n)) (by rw[List.getElem?_toArray];exact z7U h r hr n hn));have HE:Hid (proR rs r n=((proA rs r n==3)||((repA rs r n !=3) && mayP (rs.getD r z0D).rep (proA rs r n)))):=(rfl:_=_)
 generalize proR rs r n=E at HE⊢;generalize (rs.getD r z0D).rep=qr at*;generalize proA rs r n=P at*;generalize repA rs r n=R at*;generalize rndC rs=ds at*;have Z:(r:Int)<4:=by omega
 have Y:(n:Int)<3:=by omega
 go_enter Tryz.func142,Tryz.ntmps142
 go_wp2_with fail
 generalize w.alloc (.cells ds.toArray 147)=W at*;have hW:Below W.heap.size W W.drew:=(Below.refl _ _).drew;have M:Nonempty (Lat W):=⟨⟨W,Below.refl _ _⟩⟩
 by_cases hP:P=3
 ·have E2:Hid (E=true):=by rw[HE.out,hP];rfl
  have D:(P !=3)=false:=by simp[hP]
  rw[D]at z;clear HE hP;refine z0b (S:=fun w'=>∃u:Lat W,w'=u.val) (by kernel_rfl) ?_;refine sgr [(1,2)] 26 (by kernel_rfl) ⟨⟨_,hW⟩,rfl⟩ ?_;simp only[pkE];repeat go_big_quiet_step (fail)
  refine wpQuiet_nil ?_;refine qta 0 (some 7) (.agg ds.toArray) 25 (by kernel_rfl) (fun u hu=>?_) ⟨⟨_,hW⟩,rfl⟩ ?_
  ·obtain⟨u,rfl⟩:=hu;show some (((Instr.loadAt 147 (.pointer (some ⟨w.heap.size,0,none⟩)))>>=fun x=>pure (Next.value x):Sem Next).run Tryz.prog u.val)=_;rw[Sem.run_bind,A u];rfl
  simp only[Act.put,pjE];refine cla 3 (some 10) 172 #[.agg ds.toArray,.int .i64 (r:Int),.int .i64 (n:Int)] 24 (by kernel_rfl) ?_;refine(z _).mono ?_;rintro e w9 ⟨rfl,c⟩;replace hW:=hW.trans (c.mono hW.size);clear c;refine⟨_,rfl,⟨⟨_,hW⟩,rfl⟩,?_⟩;simp only[Act.put,pjE];refine sgr [(4,2),(7,2)] 20 (by kernel_rfl) ⟨⟨_,hW⟩,rfl⟩ ?_;simp only[pkE];repeat go_big_quiet_step (fail)
  refine wpQuiet_nil ?_;refine ska 6 (some 13) 19 (by kernel_rfl) ⟨⟨_,hW⟩,rfl⟩ ?_;simp only[Act.put,pjE];refine ska 9 (some 16) 18 (by kernel_rfl) ⟨⟨_,hW⟩,rfl⟩ ?_;simp only[Act.put,pjE];refine sgr [(10,5),(17,7)] 6 (by kernel_rfl) ⟨⟨_,hW⟩,rfl⟩ ?_;simp only[pkE];repeat go_big_quiet_step (fail)
  refine wpQuiet_nil ?_;refine ska 15 (some 22) 5 (by kernel_rfl) ⟨⟨_,hW⟩,rfl⟩ ?_;simp only[Act.put,pjE];refine ska 16 (some 23) 4 (by kernel_rfl) ⟨⟨_,hW⟩,rfl⟩ ?_;simp only[Act.put,pjE];refine ska 24 (some 31) 3 (by kernel_rfl) ⟨⟨_,hW⟩,rfl⟩ ?_;simp only[Act.put,pjE];refine sgr [(25,3)] 0 (by kernel_rfl) ⟨⟨_,hW⟩,rfl⟩ ?_;simp only[pkE];repeat go_big_quiet_step (fail)
  refine wpQuiet_nil ?_;refine z0f (by kernel_rfl) ?_;replace d:=d.trans (hW.mono d.size);clear A J cp hW M z y I C
  go_wp2
  go_ret;exact⟨by rw[E2.out];rfl,d⟩
 ·have D:(P !=3)=true:=by simpa using hP
  have U:(P==3)=false:=by simpa using hP
  rw[D]at z;rw[U]at HE;clear hP D;by_cases hR:R=3
  ·have E2:Hid (E=false):=by rw[HE.out,hR];rfl
   have L:(R !=3)=false:=by simp[hR]
   rw[L]at y;clear HE hR;refine z0b (S:=fun w'=>∃u:Lat W,w'=u.val) (by kernel_rfl) ?_;refine sgr [(1,2)] 26 (by kernel_rfl) ⟨⟨_,hW⟩,rfl⟩ ?_;simp only[pkE];repeat go_big_quiet_step (fail)
   refine wpQuiet_nil ?_;refine qta 0 (some 7) (.agg ds.toArray) 25 (by kernel_rfl) (fun u hu=>?_) ⟨⟨_,hW⟩,rfl⟩ ?_
   ·obtain⟨u,rfl⟩:=hu;show some (((Instr.loadAt 147 (.pointer (some ⟨w.heap.size,0,none⟩)))>>=fun x=>pure (Next.value x):Sem Next).run Tryz.prog u.val)=_;rw[Sem.run_bind,A u];rfl
   simp only[Act.put,pjE];refine cla 3 (some 10) 172 #[.agg ds.toArray,.int .i64 (r:Int),.int .i64 (n:Int)] 24 (by kernel_rfl) ?_;refine(z _).mono ?_;rintro e w9 ⟨rfl,c⟩;replace hW:=hW.trans (c.mono hW.size);clear c;refine⟨_,rfl,⟨⟨_,hW⟩,rfl⟩,?_⟩;simp only[Act.put,pjE];refine sgr [(4,2),(7,2)] 20 (by kernel_rfl) ⟨⟨_,hW⟩,rfl⟩ ?_;simp only[pkE];repeat go_big_quiet_step (fail)
   refine wpQuiet_nil ?_;refine qta 6 (some 13) (.agg ds.toArray) 19 (by kernel_rfl) (fun u hu=>?_) ⟨⟨_,hW⟩,rfl⟩ ?_
   ·obtain⟨u,rfl⟩:=hu;show some (((Instr.loadAt 147 (.pointer (some ⟨w.heap.size,0,none⟩)))>>=fun x=>pure (Next.value x):Sem Next).run Tryz.prog u.val)=_;rw[Sem.run_bind,A u];rfl
   simp only[Act.put,pjE];refine cla 9 (some 16) 175 #[.agg ds.toArray,.int .i64 (r:Int),.int .i64 (n:Int)] 18 (by kernel_rfl) ?_;refine(y _).mono ?_;rintro e w9 ⟨rfl,c⟩;replace hW:=hW.trans (c.mono hW.size);clear c;refine⟨_,rfl,⟨⟨_,hW⟩,rfl⟩,?_⟩;simp only[Act.put,pjE];refine sgr [(10,5),(17,7)] 6 (by kernel_rfl) ⟨⟨_,hW⟩,rfl⟩ ?_;simp only[pkE];repeat go_big_quiet_step (fail)
   refine wpQuiet_nil ?_;refine ska 15 (some 22) 5 (by kernel_rfl) ⟨⟨_,hW⟩,rfl⟩ ?_;simp only[Act.put,pjE];refine ska 16 (some 23) 4 (by kernel_rfl) ⟨⟨_,hW⟩,rfl⟩ ?_;simp only[Act.put,pjE];refine ska 24 (some 31) 3 (by kernel_rfl) ⟨⟨_,hW⟩,rfl⟩ ?_;simp only[Act.put,pjE];refine sgr [(25,3)] 0 (by kernel_rfl) ⟨⟨_,hW⟩,rfl⟩ ?_;simp only[pkE];repeat go_big_quiet_step (fail)
   refine wpQuiet_nil ?_;refine z0f (by kernel_rfl) ?_;replace d:=d.trans (hW.mono d.size);clear A J cp hW M z y I C
   go_wp2
   go_ret;exact⟨by rw[E2.out];rfl,d⟩
  ·have L:(R !=3)=true:=by simpa using hR
   rw[L]at y HE;clear hR;have E2:Hid (E=mayP qr P):=by rw[HE.out];exact(rfl:_=_)
   generalize mayP qr P=X at*;clear HE;refine z0b (S:=fun w'=>∃u:Lat W,w'=u.val) (by kernel_rfl) ?_;refine sgr [(1,2)] 26 (by kernel_rfl) ⟨⟨_,hW⟩,rfl⟩ ?_;simp only[pkE];repeat go_big_quiet_step (fail)
   refine wpQuiet_nil ?_;refine qta 0 (some 7) (.agg ds.toArray) 25 (by kernel_rfl) (fun u hu=>?_) ⟨⟨_,hW⟩,rfl⟩ ?_
   ·obtain⟨u,rfl⟩:=hu;show some (((Instr.loadAt 147 (.pointer (some ⟨w.heap.size,0,none⟩)))>>=fun x=>pure (Next.value x):Sem Next).run Tryz.prog u.val)=_;rw[Sem.run_bind,A u];rfl
   simp only[Act.put,pjE];refine cla 3 (some 10) 172 #[.agg ds.toArray,.int .i64 (r:Int),.int .i64 (n:Int)] 24 (by kernel_rfl) ?_;refine(z _).mono ?_;rintro e w9 ⟨rfl,c⟩;replace hW:=hW.trans (c.mono hW.size);clear c;refine⟨_,rfl,⟨⟨_,hW⟩,rfl⟩,?_⟩;simp only[Act.put,pjE];refine sgr [(4,2),(7,2)] 20 (by kernel_rfl) ⟨⟨_,hW⟩,rfl⟩ ?_;simp only[pkE];repeat go_big_quiet_step (fail)
   refine wpQuiet_nil ?_;refine qta 6 (some 13) (.agg ds.toArray) 19 (by kernel_rfl) (fun u hu=>?_) ⟨⟨_,hW⟩,rfl⟩ ?_
   ·obtain⟨u,rfl⟩:=hu;show some (((Instr.loadAt 147 (.pointer (some ⟨w.heap.size,0,none⟩)))>>=fun x=>pure (Next.value x):Sem Next).run Tryz.prog u.val)=_;rw[Sem.run_bind,A u];rfl
   simp only[Act.put,pjE];refine cla 9 (some 16) 175 #[.agg ds.toArray,.int .i64 (r:Int),.int .i64 (n:Int)] 18 (by kernel_rfl) ?_;refine(y _).mono ?_;rintro e w9 ⟨rfl,c⟩;replace hW:=hW.trans (c.mono hW.size);clear c;refine⟨_,rfl,⟨⟨_,hW⟩,rfl⟩,?_⟩;simp only[Act.put,pjE];refine sgr [(10,5),(17,7)] 6 (by kernel_rfl) ⟨⟨_,hW⟩,rfl⟩ ?_;simp only[pkE];repeat go_big_quiet_step (fail)
   refine wpQuiet_nil ?_;refine qta 15 (some 22) (.agg (qr.map iv).toArray) 5 (by kernel_rfl) (fun u hu=>?_) ⟨⟨_,hW⟩,rfl⟩ ?_
   ·obtain⟨u,rfl⟩:=hu;show some (((Instr.loadAt 142 (.pointer (some ⟨w.heap.size,1+r*6,none⟩)))>>=fun x=>pure (Next.value x):Sem Next).run Tryz.prog u.val)=_;rw[Sem.run_bind,J u];rfl
   simp only[Act.put,pjE];refine cla 16 (some 23) 174 #[.agg (qr.map iv).toArray] 4 (by kernel_rfl) ?_;refine(I _ N).mono ?_;rintro e w9 ⟨la,lc,rfl,lO,lG,lR,c⟩;replace hW:=hW.trans (c.mono hW.size);have T:=C la lc _ (hG.below (d.trans (hW.mono d.size))) lR;clear lO lG lR;clear c;refine⟨_,rfl,⟨⟨_,hW⟩,rfl⟩,?_⟩;simp only[Act.put,pjE];refine cla 24 (some 31) 176 #[.slice la 3 lc,.int .i64 P] 3 (by kernel_rfl) ?_;refine(T).mono ?_;rintro e w9 ⟨rfl,c⟩;replace hW:=hW.trans (c.mono hW.size);clear c;refine⟨_,rfl,⟨⟨_,hW⟩,rfl⟩,?_⟩;simp only[Act.put,pjE];refine sgr [(25,3)] 0 (by kernel_rfl) ⟨⟨_,hW⟩,rfl⟩ ?_;simp only[pkE];repeat go_big_quiet_step (fail)
   refine wpQuiet_nil ?_;refine z0f (by kernel_rfl) ?_;replace d:=d.trans (hW.mono d.size);clear A J cp hW M z y I C T
   go_wp2
   go_ret;exact⟨by rw[E2.out];rfl,d⟩
end Go.Proofs.YtljbililjlafcaaGreatDoor

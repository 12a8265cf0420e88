import Derived.Test.YtjjoahhnkpjolaaGreatDoorONAH
import Derived.Shelf.SortM.Plain
import Derived.Shelf.SortM.SortNone
import Derived.Shelf.SlicesG.In.CompactI
set_option linter.unusedVariables false
set_option linter.unusedSimpArgs false
set_option maxRecDepth 100000
set_option maxHeartbeats 4000000
namespace Go.Proofs.YtjjoahhnkpjolaaGreatDoor
open Go.RowKit Go.BigFrame
open TxnQ renaming e->S
open RoundQ renaming e->G
open List renaming getD->F,length_map->Q
open Value renaming slice->K
open Go.Proofs.Tryz
section
open Go.Sort Go.Shelf
def q04:Go.Shelf.Ren:=⟨fun|5=>202|8=>230|7=>229|19=>252|20=>253|10=>243|11=>244|12=>245|13=>246|14=>247|15=>248|16=>249|17=>250|18=>251|30=>265|31=>266|32=>267|33=>268|34=>269|35=>270|40=>277|n=>n,fun|23=>75|25=>2|3=>3|32=>276|22=>75|0=>0|44=>346|46=>329|4=>4|36=>339|35=>338|41=>343|5=>5|9=>9|53=>360|57=>364|63=>370|64=>371|n=>n,fun|n=>n⟩
theorem q2e:Go.Proofs.SlLaysM.n5 Tryz.prog q04:={
 mixed:=by kernel_rfl,
 f5:=⟨Tryz.f202.name,by decide,func202.trans (congrArg some (by kernel_rfl))⟩,
 f7:=⟨Tryz.f229.name,by decide,func229.trans (congrArg some (by kernel_rfl))⟩,
 f8:=func230.trans (congrArg some (by kernel_rfl)),
 f10:=⟨Tryz.f243.name,by decide,func243.trans (congrArg some (by kernel_rfl))⟩,
 f11:=⟨Tryz.f244.name,by decide,func244.trans (congrArg some (by kernel_rfl))⟩,
 f12:=⟨Tryz.f245.name,by decide,func245.trans (congrArg some (by kernel_rfl))⟩,
 f13:=⟨Tryz.f246.name,by decide,func246.trans (congrArg some (by kernel_rfl))⟩,
 f14:=⟨Tryz.f247.name,by decide,func247.trans (congrArg some (by kernel_rfl))⟩,
 f15:=⟨Tryz.f248.name,by decide,func248.trans (congrArg some (by kernel_rfl))⟩,
 f16:=⟨Tryz.f249.name,by decide,func249.trans (congrArg some (by kernel_rfl))⟩,
 f17:=⟨Tryz.f250.name,by decide,func250.trans (congrArg some (by kernel_rfl))⟩,
 f18:=⟨Tryz.f251.name,by decide,func251.trans (congrArg some (by kernel_rfl))⟩,
 f19:=func252.trans (congrArg some (by kernel_rfl)),
 f20:=func253.trans (congrArg some (by kernel_rfl)),
 f30:=⟨Tryz.f265.name,by decide,func265.trans (congrArg some (by kernel_rfl))⟩,
 f31:=func266.trans (congrArg some (by kernel_rfl)),
 f32:=func267.trans (congrArg some (by kernel_rfl)),
 f33:=⟨Tryz.f268.name,by decide,func268.trans (congrArg some (by kernel_rfl))⟩,
 f34:=⟨Tryz.f269.name,by decide,func269.trans (congrArg some (by kernel_rfl))⟩,
 f35:=⟨Tryz.f270.name,by decide,func270.trans (congrArg some (by kernel_rfl))⟩,
 f40:=⟨Tryz.f277.name,by decide,func277.trans (congrArg some (by kernel_rfl))⟩,
 t0:=Tryz.underlying0,
 a0:=Tryz.isAgg0,
 z0:=Tryz.sizeOf0,
 v0:=Tryz.zeroValue0,
 t3:=Tryz.underlying3,
 a3:=Tryz.isAgg3,
 z3:=Tryz.sizeOf3,
 v3:=Tryz.zeroValue3,
 t4:=Tryz.underlying4,
 a4:=Tryz.isAgg4,
 z4:=Tryz.sizeOf4,
 v4:=Tryz.zeroValue4,
 t5:=Tryz.underlying5,
 a5:=Tryz.isAgg5,
 z5:=Tryz.sizeOf5,
 v5:=Tryz.zeroValue5,
 t9:=Tryz.underlying9,
 a9:=Tryz.isAgg9,
 z9:=Tryz.sizeOf9,
 v9:=Tryz.zeroValue9,
 t22:=Tryz.underlying75,
 a22:=Tryz.isAgg75,
 z22:=Tryz.sizeOf75,
 v22:=Tryz.zeroValue75,
 t23:=Tryz.underlying75,
 a23:=Tryz.isAgg75,
 z23:=Tryz.sizeOf75,
 v23:=Tryz.zeroValue75,
 t25:=Tryz.underlying2,
 a25:=Tryz.isAgg2,
 z25:=Tryz.sizeOf2,
 v25:=Tryz.zeroValue2,
 t32:=Tryz.underlying276,
 a32:=Tryz.isAgg276,
 z32:=Tryz.sizeOf276,
 v32:=Tryz.zeroValue276,
 t35:=Tryz.underlying338,
 a35:=Tryz.isAgg338,
 z35:=Tryz.sizeOf338,
 v35:=Tryz.zeroValue338,
 t36:=Tryz.underlying339,
 a36:=Tryz.isAgg339,
 z36:=Tryz.sizeOf339,
 v36:=Tryz.zeroValue339,
 t41:=Tryz.underlying343,
 a41:=Tryz.isAgg343,
 z41:=Tryz.sizeOf343,
 v41:=Tryz.zeroValue343,
 t44:=Tryz.underlying346,
 a44:=Tryz.isAgg346,
 z44:=Tryz.sizeOf346,
 v44:=Tryz.zeroValue346,
 t46:=Tryz.underlying329,
 a46:=Tryz.isAgg329,
 z46:=Tryz.sizeOf329,
 v46:=Tryz.zeroValue329,
 t53:=Tryz.underlying360,
 a53:=Tryz.isAgg360,
 z53:=Tryz.sizeOf360,
 v53:=Tryz.zeroValue360,
 t57:=Tryz.underlying364,
 a57:=Tryz.isAgg364,
 z57:=Tryz.sizeOf364,
 v57:=Tryz.zeroValue364,
 t63:=Tryz.underlying370,
 a63:=Tryz.isAgg370,
 z63:=Tryz.sizeOf370,
 v63:=Tryz.zeroValue370,
 t64:=Tryz.underlying371,
 a64:=Tryz.isAgg371,
 z64:=Tryz.sizeOf371,
 v64:=Tryz.zeroValue371 }
def q05:Go.Shelf.Ren:=⟨fun|43=>203|n=>n,fun|22=>75|23=>2|3=>3|4=>4|0=>0|n=>n,fun|n=>n⟩
theorem q55:Go.Proofs.SlLaysN.n43 Tryz.prog q05:={
 mixed:=by kernel_rfl,
 f43:=⟨Tryz.f203.name,by decide,func203.trans (congrArg some (by kernel_rfl))⟩,
 t0:=Tryz.underlying0,
 a0:=Tryz.isAgg0,
 z0:=Tryz.sizeOf0,
 v0:=Tryz.zeroValue0,
 t3:=Tryz.underlying3,
 a3:=Tryz.isAgg3,
 z3:=Tryz.sizeOf3,
 v3:=Tryz.zeroValue3,
 t4:=Tryz.underlying4,
 a4:=Tryz.isAgg4,
 z4:=Tryz.sizeOf4,
 v4:=Tryz.zeroValue4,
 t22:=Tryz.underlying75,
 a22:=Tryz.isAgg75,
 z22:=Tryz.sizeOf75,
 v22:=Tryz.zeroValue75,
 t23:=Tryz.underlying2,
 a23:=Tryz.isAgg2,
 z23:=Tryz.sizeOf2,
 v23:=Tryz.zeroValue2,
 i23:=by kernel_rfl }
end
section
open Go.Sort
theorem z4K:∀ (L:List Int),L.Pairwise (· ≤ ·)→(∀j,j+1<L.length→L.getD (j+1) 0≠L.getD j 0)→L.Nodup
 |[],_,_=>List.nodup_nil
 |[a],_,_=>by simp
 |a::b::t,hs,hadj=>by
  rw[List.pairwise_cons]at hs;have hab:a≠b:=fun e=>hadj 0 (by simp) (by simpa using e.symm)
  have ih:=z4K (b::t) hs.2 (fun j hj=>by simpa using hadj (j+1) (by simpa using hj));rw[List.nodup_cons];refine⟨fun hm=>?_,ih⟩;have h1:=hs.1 b (by simp);rcases List.mem_cons.1 hm with h|h
  ·exact hab h
  ·have h2:=(List.pairwise_cons.1 hs.2).1 a h;omega
theorem q5R(L:List Int)(j:Nat):L.toArray[j]! =L.getD j 0:=by
 rw[List.getElem!_toArray];by_cases h:j<L.length
 ·rw[getElem!_pos L j h];simp[F,h]
 ·rw[getElem!_neg L j h];simp[F,List.getElem?_eq_none (show L.length≤j by omega)]
theorem z9q(L:List Int)(hs:L.Pairwise (· ≤ ·)):(L.Nodup→(Lib.compact L).length=L.length)∧(¬L.Nodup→(Lib.compact L).length<L.length):=by
 constructor
 ·intro h;rw[Lib.compact_all];intro j hj;unfold Lib.keeps;rw[decide_eq_true_eq,q5R,q5R];by_cases h0:j=0
  ·exact Or.inl h0
  ·right;intro e;have e1:L.getD j 0=L[j]:=by simp[F,hj]
   have e2:L.getD (j-1) 0=L[j-1]'(by omega):=by simp[F,show j-1<L.length by omega]
   rw[e1,e2]at e;exact List.pairwise_iff_getElem.1 h (j-1) j (by omega) hj (by omega) e.symm
 ·intro h;have hex:∃j,j+1<L.length∧L.getD (j+1) 0=L.getD j 0:=by
   apply Classical.byContradiction;intro hn;exact h (z4K L hs (fun j hj e=>hn ⟨j,hj,e⟩))
  obtain⟨j,hj,e⟩:=hex;unfold Lib.compact Lib.compactUpTo;rw[Q];have:=(List.length_filter_lt_length_iff_exists (p:=Lib.keeps L.toArray) (l:=List.range L.length)).2 ⟨j + 1,List.mem_range.2 hj,by
   unfold Lib.keeps;rw[decide_eq_true_eq,q5R,q5R];rintro(h|h)
   ·omega
   ·exact h (by simpa using e)⟩
  rwa [List.length_range]at this
theorem q2f{w w':World}{base g n cap q:Nat}{zs ys:List Int}{os:Array Obj}(h:w.ownsRow base 2 1 (K (some ⟨g,0,none⟩) n cap) n (zs.map (Value.int .i64)))(hl:ys.length=n)
  (hw:w'=grow (putRow (Value.int .i64) (Sort.ahead w q) g 0 ys.toArray) os):w'.ownsRow base 2 1 (K (some ⟨g,0,none⟩) n cap) n (ys.map (Value.int .i64))∧Out [g] w w':=by
 rcases h.2 with⟨he,hn⟩|⟨g',cap',cur,he,hb,hh,h1,h2,h3,h4⟩
 ·simp at he
 ·simp only[Value.slice.injEq,Option.some.injEq,Addr.mk.injEq,and_true,true_and]at he;obtain⟨rfl,rfl⟩:=he;have hlt:g<w.heap.size:=(Array.getElem?_eq_some_iff.1 hh).1;have hsz:(putRow (Value.int .i64) (Sort.ahead w q) g 0 ys.toArray).heap.size=w.heap.size:=by simp
  have hblk:∀k,k<w.heap.size→w'.heap[k]?=(putRow (Value.int .i64) (Sort.ahead w q) g 0 ys.toArray).heap[k]?:=fun k hk=>by
   rw[hw];exact Array.getElem?_append_left (by rw[hsz];exact hk)
  have hg:w'.heap[g]?=some (.cells (putCells (Value.int .i64) 0 ys.toArray cur) 2 (0,0)):=by
   rw[hblk g hlt];show(w.heap.modify g _)[g]?=_;rw[Array.getElem?_modify,if_pos rfl,hh];rfl
  have hcs:(putCells (Value.int .i64) 0 ys.toArray cur).size=cur.size:=by simp[putCells]
  refine⟨⟨by simp[hl],Or.inr ⟨g,cap,_,rfl,hb,hg,h1,h2,by rw[hcs];exact h3,?_⟩⟩,?_⟩
  ·apply List.ext_getElem?;intro j;by_cases hj:j<n
   ·rw[List.getElem?_take,if_pos (by omega),Array.getElem?_toList];simp only[putCells,Array.getElem?_mapIdx];rw[Array.getElem?_eq_getElem (by omega),Option.map_some,if_pos ⟨Nat.zero_le _,by rw[List.size_toArray];omega⟩];simp only[Nat.sub_zero];rw[q5R,List.getElem?_map,List.getElem?_eq_getElem (by omega)];simp[F,show j<ys.length by omega]
   ·rw[List.getElem?_eq_none (by simp;omega),List.getElem?_eq_none (by simp;omega)]
  ·refine⟨by rw[hw];rfl,by rw[hw];rfl,by rw[hw];rfl,?_,fun k hk hn=>?_⟩
   ·rw[hw];show w.heap.size≤(_++os).size;rw[Array.size_append,hsz];omega
   ·rw[hblk k hk];show(w.heap.modify g _)[k]?=_;rw[Array.getElem?_modify,if_neg (fun e=>hn (by simp[e]))]
theorem z8p{w:World}{base g n cap:Nat}{zs:List Int}(h:w.ownsRow base 2 1 (K (some ⟨g,0,none⟩) n cap) n (zs.map (Value.int .i64))):Holds (Value.int .i64) w g 0 zs.toArray∧g<w.heap.size∧n≤cap:=by
 have hl:zs.length=n:=by have:=h.1;simpa using this
 refine⟨fun j hj=>?_,?_,q0c h⟩
 ·rw[List.size_toArray]at hj;refine⟨?_,h.frozenAt _⟩;rw[Nat.zero_add,h.cellAt j (by omega),q5R];simp[F,hj]
 ·exact(h.lt g rfl).2
theorem q2g(g cap base:Nat)(zs:List Int)(w:World)(h:w.ownsRow base 2 1 (K (some ⟨g,0,none⟩) zs.length cap) zs.length (zs.map (Value.int .i64)))(hl:zs.length≤60):
  Calls Tryz.prog 202 #[K (some ⟨g,0,none⟩) zs.length cap] w fun e w'=>e=.returned (.tuple #[])∧∃ys:List Int,ys.Perm zs∧ys.Pairwise (· ≤ ·)∧w'.ownsRow base 2 1 (K (some ⟨g,0,none⟩) zs.length cap) zs.length (ys.map (Value.int .i64))∧Out [g] w w':=by
 obtain⟨hH,hlt,hc⟩:=z8p h;refine(AnyM.slices_Sort_int q2e g 0 cap zs w hH hlt (by omega)).mono ?_;rintro e w' ⟨rfl,q,os,hw⟩;obtain⟨o,u⟩:=q2f h (by rw[List.length_mergeSort]) hw;refine⟨rfl,_,List.mergeSort_perm _ _,?_,o,u⟩;have:=List.pairwise_mergeSort (le:=fun(x y:Int)=>decide (x≤y)) (fun a b c h1 h2=>by simp only[decide_eq_true_eq]at*;omega) (fun a b=>by simp only[Bool.or_eq_true,decide_eq_true_eq];omega) zs;exact this.imp (fun h=>by simpa using h)
theorem z8q(g cap base:Nat)(zs:List Int)(w:World)(h:w.ownsRow base 2 1 (K (some ⟨g,0,none⟩) zs.length cap) zs.length (zs.map (Value.int .i64)))(hl:zs.length≤60):
  Calls Tryz.prog 203 #[K (some ⟨g,0,none⟩) zs.length cap] w fun e w'=>e=.returned (.slice (some ⟨g,0,none⟩) (Lib.compact zs).length cap)∧Out [g] w w':=by
 obtain⟨hH,hlt,hc⟩:=z8p h;refine(calls_of_every_depth fun D=>AnySG.slices_Compact_int_in q55 D g 0 cap zs w hH (by omega) hc).mono ?_;rintro e w' ⟨rfl,q,hw⟩;have hle:(Lib.compact zs).length≤zs.length:=by
  unfold Lib.compact Lib.compactUpTo;rw[Q];exact Nat.le_trans (List.length_filter_le _ _) (by simp)
 exact⟨rfl,(q2f (ys:=Lib.compact zs++List.replicate (zs.length-(Lib.compact zs).length) 0) (os:=#[]) h (by simp only[List.length_append,List.length_replicate];omega) (by rw[hw,grow_empty])).2⟩
theorem z6m(v:Value)(ds:List TxnD)(w:World)(h:TxnsAt w v ds)(hl:ds.length+z6g ds≤1048576):
  Calls Tryz.prog 167 #[v] w fun e w'=>e=.returned (.int .i64 (batF ds))∧Below w.heap.size w w':=by
 have x:=z7f v ds w h hl;obtain⟨a,cap,rfl⟩:=h.shape;by_cases X:ds.length<1
 ·rw[z3S (Or.inl X)];clear x;go_enter func167,ntmps167
  go_wp2
  go_ret;exact⟨rfl,Below.refl _ _⟩
 ·by_cases U:4<ds.length
  ·rw[z3S (Or.inr U)];clear x;go_enter func167,ntmps167
   go_wp2
   go_ret;exact⟨rfl,Below.refl _ _⟩
  ·have HB:Hid (batF ds=if allF ds=0 then(if(ds.map TxnD.id).Nodup then 0 else 6)else allF ds):=q0d (by omega);generalize batF ds=E at HB⊢;have hC:z85 ds=allF ds:=if_neg (by omega);have ad:1≤ds.length:=by omega
   have V:ds.length≤4:=by omega
   clear X U;rw[hC]at x;have hR:allF ds=0→idsR ds=ds.map TxnD.id:=fun h0=>by
    unfold idsR;rw[if_pos (by rw[hC];exact h0)]
   have ag:(idsR ds).length≤4:=Nat.le_trans (q5b ds) V;have A:Hid (allF ds=0→(idsR ds).length=ds.length∧(E=if(idsR ds).Nodup then 0 else 6)):=fun h0=>by
    rw[hR h0];refine⟨by simp,?_⟩;have:=HB.out;rw[if_pos h0]at this;exact this
   have D:Hid (allF ds≠0→E=allF ds):=fun h0=>by
    have:=HB.out;rw[if_neg h0]at this;exact this
   clear HB hR hC;generalize idsR ds=L at*;generalize allF ds=C at*;go_enter func167,ntmps167
   go_wp2_with fail
   refine x.mono ?_;rintro e w1 ⟨b,c,rfl,ho,I⟩;clear x;have B:=Blk.new w1 290 #[.int .i64 C,K b L.length c];have z:=I.alloc I.size (.cells #[.int .i64 C,K b L.length c] 290);by_cases h0:C=0
   ·subst h0;obtain⟨O,hE⟩:=A.out rfl;have HE:Hid (E=if L.Nodup then 0 else 6):=hE;have HL:Hid (L.length=ds.length):=O;have Z:=z0c ho ((Below.refl w1.heap.size w1).alloc (Nat.le_refl _) (.cells #[.int .i64 0,K b L.length c] 290));obtain⟨g,hg⟩:∃g,b=some ⟨g,0,none⟩:=by
     rcases ho.2 with⟨_,hn⟩|⟨g,_,_,he,_⟩
     ·omega
     ·simp only[Value.slice.injEq]at he;exact⟨g,he.1⟩
    subst hg;have ah:=ho.lt g rfl;have aa:=q2g g c _ L _ Z (by omega);clear A D hE O ho Z
    go_wp2_with fail
    generalize w1.alloc (.cells #[.int .i64 0,K (some ⟨g,0,none⟩) L.length c] 290)=W at*;refine aa.mono ?_;rintro e w3 ⟨rfl,ys,d,y,o3,u3⟩;have N:ys.length=L.length:=d.length_eq;have HC:Hid (((Lib.compact ys).length<L.length→E=6)∧(¬(Lib.compact ys).length<L.length→E=0)):=by
     obtain⟨c1,c2⟩:=z9q ys y;have Y:=d.nodup_iff;refine⟨fun hx=>?_,fun hx=>?_⟩
     ·have hn:¬ys.Nodup:=fun hn=>by have:=c1 hn;omega
      rw[HE.out,if_neg (fun e=>hn (Y.2 e))]
     ·have hn:ys.Nodup:=Classical.byContradiction (fun hn=>hx (by have:=c2 hn;omega));rw[HE.out,if_pos (Y.1 hn)]
    have M:=z8q g c _ ys w3 (by rw[N];exact o3) (by omega);rw[N]at M;have ab:w1.heap.size≠g:=by omega
    have B3:Blk w3 w1.heap.size 290 #[.int .i64 0,K (some ⟨g,0,none⟩) L.length c]:=(u3.block _ B.lt (by simp only[List.mem_singleton];exact ab)).trans B;have J:Below w.heap.size w w3:=Out.keep z u3 z.size (fun k hk=>by simp only[List.mem_singleton]at hk;omega);have p1:=B3.cell 1 _ rfl;generalize (Lib.compact ys).length=m at*;clear aa HE o3 u3 B d y N I z
    go_wp2_with fail
    refine M.mono ?_;rintro e w4 ⟨rfl,u4⟩;have T:Below w.heap.size w w4:=Out.keep J u4 J.size (fun k hk=>by simp only[List.mem_singleton]at hk;omega);clear M u4 B3 J p1;have af:=HL.out;by_cases hm:m<ds.length
    ·have E2:Hid (E=6):=HC.out.1 (by omega);clear HC
     go_wp2
     go_ret;exact⟨by rw[E2.out];rfl,T⟩
    ·have E2:Hid (E=0):=HC.out.2 (by omega);clear HC
     go_wp2
     go_ret;exact⟨by rw[E2.out];rfl,T⟩
   ·have E2:Hid (E=C):=D.out h0;have ae:(C !=0)=true:=by simpa using h0
    clear A D h0 ho
    go_wp2
    go_ret;exact⟨by rw[E2.out];rfl,z⟩
end
structure InstP (w:World) (b o:Nat) (p:InstQ):Prop where
 box:Box4 w b o (.bool p.has) p.vb p.vr p.vd
 rd:instK.rd w p
theorem InstP.below{w w':World}{b o:Nat}{p:InstQ}(h:InstP w b o p)(hb:Below w.heap.size w w'):InstP w' b o p:=⟨h.box.below hb,instK.rd_below h.rd hb⟩
theorem InstP.batch{w:World}{b o:Nat}{p:InstQ}(h:InstP w b o p):txnK.At w p.vb p.batch:=h.rd.1
theorem InstP.rounds{w:World}{b o:Nat}{p:InstQ}(h:InstP w b o p):roundK.At w p.vr p.rounds:=h.rd.2.1
theorem InstP.dec{w:World}{b o:Nat}{p:InstQ}(h:InstP w b o p):intK.At w p.vd p.dec:=h.rd.2.2
theorem z1u(rs:List RoundQ)(r:Nat)(hr:r<rs.length):(rs.map G).getD r z0I=G rs[r]:=by simp[F,hr]
theorem q0e(rs:List RoundQ)(r:Nat)(hr:r<rs.length):rs[r].rep.length+rs[r].pro.length≤nmL RoundQ.n rs:=z01 RoundQ.n rs r hr
theorem z2l(ds:List RoundE):∀k,(∀j,j<k→vf (ds.getD j z0I).rep 1=0∧vf (ds.getD j z0I).pro 2=0)→k<ds.length→(vf (ds.getD k z0I).rep 1≠0→z0R ds=vf (ds.getD k z0I).rep 1)∧(vf (ds.getD k z0I).rep 1=0→vf (ds.getD k z0I).pro 2≠0→z0R ds=vf (ds.getD k z0I).pro 2):=by
 induction ds with
 |nil=>intro k _ h;simp at h
 |cons x r ih=>
  intro k h0 hk
  cases k with
  |zero=>
   simp only[List.getD_cons_zero];unfold z0R;exact⟨fun h=>by rw[if_neg h],fun h h2=>by rw[if_pos h,if_neg h2]⟩
  |succ k=>
   have hx:=h0 0 (by omega);simp only[List.getD_cons_zero]at hx;have:=ih k (fun j hj=>by simpa using h0 (j+1) (by omega)) (by simpa using hk);simp only[List.getD_cons_succ];rw[show z0R (x::r)=z0R r by rw[z0R,if_pos hx.1,if_pos hx.2]];exact this
theorem z2V(ds:List RoundE)(h:∀j,j<ds.length→vf (ds.getD j z0I).rep 1=0∧vf (ds.getD j z0I).pro 2=0):z0R ds=0:=by
 induction ds with
 |nil=>rfl
 |cons x r ih=>
  have hx:=h 0 (by simp);simp only[List.getD_cons_zero]at hx;rw[z0R,if_pos hx.1,if_pos hx.2];exact ih (fun j hj=>by simpa using h (j+1) (by simpa using hj))
theorem z9r(b o:Nat)(p:InstQ)(w:World)(hP:InstP w b o p)(hl:p.n≤1048576):
  Calls Tryz.prog 111 #[.pointer (some ⟨b,o,none⟩)] w fun e w'=>e=.returned (.int .i64 (shpF p.e))∧Below w.heap.size w w':=by
 have hB:Below w.heap.size w w:=Below.refl _ _;obtain⟨has,vb,y,vr,d,vd,dec⟩:=p;dsimp only[InstQ.n]at hl;have HE:Hid (shpF (InstQ.e ⟨has,vb,y,vr,d,vd,dec⟩)=if has=false∧0 < (y.map S).length then 1 else
  if has=true∧batF (y.map S)≠0 then batF (y.map S)else
  if(d.map G).length<1∨4<(d.map G).length then 2 else
  if z0R (d.map G)=0 then vf dec 1 else z0R (d.map G)):=by
  exact(rfl:shpF _=_)
 generalize shpF (InstQ.e ⟨has,vb,y,vr,d,vd,dec⟩)=E at HE⊢;have hv:=z9p vb (y.map S) w (z8o hP.batch) (by rw[Q,q2b];omega);have am:∃a c,vb=K a y.length c:=hP.batch.shape;have an:∃a c,vr=K a d.length c:=hP.rounds.shape;have ap:∃a c,vd=K a dec.length c:=hP.dec.shape;obtain⟨ba,bk,rfl⟩:=am;obtain⟨va,vk,rfl⟩:=an
 cases has with
 |false=>
  by_cases h0:0<y.length
  ·have E1:Hid (E=1):=by rw[HE.out,if_pos ⟨rfl,by simpa using h0⟩];rfl
   obtain⟨c0,c1,c2,c3⟩:=hP.box;dsimp only at c0 c1 c2 c3;clear HE hv;go_enter func111,ntmps111
   go_wp2
   go_ret;exact⟨by rw[E1.out];rfl,hB⟩
  ·have HS:Hid (E=if(d.map G).length<1∨4<(d.map G).length then 2 else if z0R (d.map G)=0 then vf dec 1 else z0R (d.map G)):=by
    have:=HE.out;rw[if_neg (fun h=>h0 (by simpa using h.2)),if_neg (by simp)]at this;exact this
   clear HE;obtain⟨c0,c1,c2,c3⟩:=hP.box;dsimp only at c0 c1 c2 c3;have ao:¬(0:Int)<y.length:=by omega
   go_enter func111,ntmps111;clear c0 c1 c2 c3;by_cases Y:d.length<1
   ·have E2:Hid (E=2):=by rw[HS.out,if_pos (Or.inl (by simpa using Y))];rfl
    obtain⟨c0,c1,c2,c3⟩:=hP.box;dsimp only at c0 c1 c2 c3;clear HS hv
    go_wp2
    go_ret;exact⟨by rw[E2.out];rfl,hB⟩
   ·by_cases Z:4<d.length
    ·have E2:Hid (E=2):=by rw[HS.out,if_pos (Or.inr (by simpa using Z))];rfl
     obtain⟨c0,c1,c2,c3⟩:=hP.box;dsimp only at c0 c1 c2 c3;clear HS hv
     go_wp2
     go_ret;exact⟨by rw[E2.out];rfl,hB⟩
    ·have N:Hid (E=if z0R (d.map G)=0 then vf dec 1 else z0R (d.map G)):=by
      have:=HS.out;rw[if_neg (by simp only[Q];omega)]at this;exact this
     have ah:¬(d.length:Int)<1:=by omega
     have ai:¬(4:Int)<d.length:=by omega
     clear HS Y Z;obtain⟨c0,c1,c2,c3⟩:=hP.box;dsimp only at c0 c1 c2 c3
     go_wp2
     clear c0 c1 c2 c3;go_loopw[4] (fun j wr=>∃k:Nat,k≤d.length∧j=.int .i64 k∧Hid (∀j,j<k→vf ((d.map G).getD j z0I).rep 1=0∧vf ((d.map G).getD j z0I).pro 2=0)∧Below w.heap.size w wr) (fun j _=>d.length-(intOf j).toNat)
     case atStart=>exact⟨0,Nat.zero_le _,rfl,fun j hj=>absurd hj (Nat.not_lt_zero _),Below.refl _ _⟩
     case round=>
      obtain⟨k,hk,rfl,HA,hb⟩:=hrel;have I:=hP.below hb;have D:=hB.trans (hb.mono hB.size);obtain⟨c0,c1,c2,c3⟩:=I.box;dsimp only at c0 c1 c2 c3;by_cases L:k<d.length
      ·obtain⟨rb,ro,rfl,ak,hc,af⟩:=I.rounds.cell (by decide) k L;have W:∀j x,(roundK.cells d[k])[j]?=some x→wr.cell? ⟨rb,ro+k*2+j,none⟩=some x:=hc;have r0:=W 0 (d[k].vr) rfl;have r1:=W 1 (d[k].vp) rfl;have al:=q0e d k L;have C:=z2l (d.map G) k HA.out (by simpa using L);rw[z1u d k L]at C;dsimp only[G]at C;have T:Hid (vf d[k].rep 1≠0→E=vf d[k].rep 1):=fun h=>by rw[N.out,C.1 h,if_neg h]
       have U:Hid (vf d[k].rep 1=0→vf d[k].pro 2≠0→E=vf d[k].pro 2):=fun h h2=>by rw[N.out,C.2 h h2,if_neg h2]
       have HN:Hid (vf d[k].rep 1=0→vf d[k].pro 2=0→∀j,j<k+1→vf ((d.map G).getD j z0I).rep 1=0∧vf ((d.map G).getD j z0I).pro 2=0):=by
        intro h1 h2 j hj;by_cases ab:j=k
        ·subst ab;rw[z1u d j L];exact⟨h1,h2⟩
        ·exact HA.out j (by omega)
       clear HA C hc W;generalize d[k]=q at*;obtain⟨qv,qr,qw,qp⟩:=q;obtain⟨rA,rP⟩:intK.At wr qv qr∧intK.At wr qw qp:=af;dsimp only at*;obtain⟨ra,rk,rfl⟩:=rA.shape;obtain⟨pa,pk,rfl⟩:=rP.shape;have M:=z08 ra rk qr 1 wr (z0P rA).2 (by omega);rw[Nat.add_zero]at r0
       go_wp2_with fail
       refine M.mono ?_;rintro e w2 ⟨rfl,z⟩;have O:=I.below z;have A:=D.trans (z.mono D.size);have ae:=World.block_lt_of_cell? wr _ r1;replace r1:=(z.cell (p:=⟨rb,ro+k*2+1,none⟩) ae).trans r1;replace hb:=hb.trans (z.mono hb.size);have X:=z08 pa pk qp 2 w2 (z0P (rP.below z)).2 (by omega);clear M c0 c1 c2 c3 r0 z I D rA rP;obtain⟨c0,c1,c2,c3⟩:=O.box;dsimp only at c0 c1 c2 c3;by_cases h1:vf qr 1=0
       ·have HF:Hid (vf qp 2≠0→E=vf qp 2):=U.out h1;have HM:Hid (vf qp 2=0→_):=HN.out h1;rw[h1];clear T U HN h1
        go_wp2_with fail
        refine X.mono ?_;rintro e w3 ⟨rfl,V⟩;replace hb:=hb.trans (V.mono hb.size);replace A:=A.trans (V.mono A.size);clear X c0 c1 c2 c3 r1 V O;by_cases h2:vf qp 2=0
        ·have R:=HM.out h2;have HR:Hid _:=R;rw[h2];clear HF HM R h2
         go_wp2
         go_roundw
         case rel=>exact⟨k+1,by omega,by go_num,HR.out,hb⟩
         case measure=>simp[intOf];omega
        ·have E2:Hid (E=vf qp 2):=HF.out h2;have aj:(vf qp 2 !=0)=true:=by simpa using h2
         clear HF HM h2;generalize vf qp 2=r at*
         go_wp2
         go_ret;exact⟨by rw[E2.out];rfl,A⟩
       ·have E2:Hid (E=vf qr 1):=T.out h1;have ag:(vf qr 1 !=0)=true:=by simpa using h1
        clear T U HN h1 X;generalize vf qr 1=r at*
        go_wp2
        go_ret;exact⟨by rw[E2.out];rfl,A⟩
      ·have ad:k=d.length:=by omega
       subst ad;have E2:Hid (E=vf dec 1):=by
        have:=N.out;rw[if_pos (z2V _ (by simpa using HA.out))]at this;exact this
       have J:intK.At wr vd dec:=I.dec;obtain⟨da,dk,rfl⟩:=J.shape;have M:=z08 da dk dec 1 wr (z0P J).2 (by omega);clear HA N J
       go_wp2_with fail
       refine M.mono ?_;rintro e w2 ⟨rfl,z⟩;replace D:=D.trans (z.mono D.size);generalize vf dec 1=r at*;clear M c0 c1 c2 c3 z I
       go_wp2
       go_ret;exact⟨by rw[E2.out];rfl,D⟩
 |true=>
  obtain⟨c0,c1,c2,c3⟩:=hP.box;dsimp only at c0 c1 c2 c3;go_enter func111,ntmps111
  go_wp2_with fail
  refine hv.mono ?_;rintro e w1 ⟨rfl,aa⟩;replace hP:=hP.below aa;replace hB:=hB.trans (aa.mono hB.size);clear hv aa c0 c1 c2 c3;by_cases h1:batF (y.map S)=0
  ·have HS:Hid (E=if(d.map G).length<1∨4<(d.map G).length then 2 else if z0R (d.map G)=0 then vf dec 1 else z0R (d.map G)):=by
    have:=HE.out;rw[if_neg (by simp),if_neg (fun h=>h.2 h1)]at this;exact this
   rw[h1];clear HE h1;have hv:=True.intro;by_cases Y:d.length<1
   ·have E2:Hid (E=2):=by rw[HS.out,if_pos (Or.inl (by simpa using Y))];rfl
    obtain⟨c0,c1,c2,c3⟩:=hP.box;dsimp only at c0 c1 c2 c3;clear HS hv
    go_wp2
    go_ret;exact⟨by rw[E2.out];rfl,hB⟩
   ·by_cases Z:4<d.length
    ·have E2:Hid (E=2):=by rw[HS.out,if_pos (Or.inr (by simpa using Z))];rfl
     obtain⟨c0,c1,c2,c3⟩:=hP.box;dsimp only at c0 c1 c2 c3;clear HS hv
     go_wp2
     go_ret;exact⟨by rw[E2.out];rfl,hB⟩
    ·have N:Hid (E=if z0R (d.map G)=0 then vf dec 1 else z0R (d.map G)):=by
      have:=HS.out;rw[if_neg (by simp only[Q];omega)]at this;exact this
     have ah:¬(d.length:Int)<1:=by omega
     have ai:¬(4:Int)<d.length:=by omega
     clear HS Y Z;obtain⟨c0,c1,c2,c3⟩:=hP.box;dsimp only at c0 c1 c2 c3
     go_wp2
     clear c0 c1 c2 c3;go_loopw[4] (fun j wr=>∃k:Nat,k≤d.length∧j=.int .i64 k∧Hid (∀j,j<k→vf ((d.map G).getD j z0I).rep 1=0∧vf ((d.map G).getD j z0I).pro 2=0)∧Below w1.heap.size w1 wr) (fun j _=>d.length-(intOf j).toNat)
     case atStart=>exact⟨0,Nat.zero_le _,rfl,fun j hj=>absurd hj (Nat.not_lt_zero _),Below.refl _ _⟩
     case round=>
      obtain⟨k,hk,rfl,HA,hb⟩:=hrel;have I:=hP.below hb;have D:=hB.trans (hb.mono hB.size);obtain⟨c0,c1,c2,c3⟩:=I.box;dsimp only at c0 c1 c2 c3;by_cases L:k<d.length
      ·obtain⟨rb,ro,rfl,ak,hc,af⟩:=I.rounds.cell (by decide) k L;have W:∀j x,(roundK.cells d[k])[j]?=some x→wr.cell? ⟨rb,ro+k*2+j,none⟩=some x:=hc;have r0:=W 0 (d[k].vr) rfl;have r1:=W 1 (d[k].vp) rfl;have al:=q0e d k L;have C:=z2l (d.map G) k HA.out (by simpa using L);rw[z1u d k L]at C;dsimp only[G]at C;have T:Hid (vf d[k].rep 1≠0→E=vf d[k].rep 1):=fun h=>by rw[N.out,C.1 h,if_neg h]
       have U:Hid (vf d[k].rep 1=0→vf d[k].pro 2≠0→E=vf d[k].pro 2):=fun h h2=>by rw[N.out,C.2 h h2,if_neg h2]
       have HN:Hid (vf d[k].rep 1=0→vf d[k].pro 2=0→∀j,j<k+1→vf ((d.map G).getD j z0I).rep 1=0∧vf ((d.map G).getD j z0I).pro 2=0):=by
        intro h1 h2 j hj;by_cases ab:j=k
        ·subst ab;rw[z1u d j L];exact⟨h1,h2⟩
        ·exact HA.out j (by omega)
       clear HA C hc W;generalize d[k]=q at*;obtain⟨qv,qr,qw,qp⟩:=q;obtain⟨rA,rP⟩:intK.At wr qv qr∧intK.At wr qw qp:=af;dsimp only at*;obtain⟨ra,rk,rfl⟩:=rA.shape;obtain⟨pa,pk,rfl⟩:=rP.shape;have M:=z08 ra rk qr 1 wr (z0P rA).2 (by omega);rw[Nat.add_zero]at r0
       go_wp2_with fail
       refine M.mono ?_;rintro e w2 ⟨rfl,z⟩;have O:=I.below z;have A:=D.trans (z.mono D.size);have ae:=World.block_lt_of_cell? wr _ r1;replace r1:=(z.cell (p:=⟨rb,ro+k*2+1,none⟩) ae).trans r1;replace hb:=hb.trans (z.mono hb.size);have X:=z08 pa pk qp 2 w2 (z0P (rP.below z)).2 (by omega);clear M c0 c1 c2 c3 r0 z I D rA rP;obtain⟨c0,c1,c2,c3⟩:=O.box;dsimp only at c0 c1 c2 c3;by_cases h1:vf qr 1=0
       ·have HF:Hid (vf qp 2≠0→E=vf qp 2):=U.out h1;have HM:Hid (vf qp 2=0→_):=HN.out h1;rw[h1];clear T U HN h1
        go_wp2_with fail
        refine X.mono ?_;rintro e w3 ⟨rfl,V⟩;replace hb:=hb.trans (V.mono hb.size);replace A:=A.trans (V.mono A.size);clear X c0 c1 c2 c3 r1 V O;by_cases h2:vf qp 2=0
        ·have R:=HM.out h2;have HR:Hid _:=R;rw[h2];clear HF HM R h2
         go_wp2
         go_roundw
         case rel=>exact⟨k+1,by omega,by go_num,HR.out,hb⟩
         case measure=>simp[intOf];omega
        ·have E2:Hid (E=vf qp 2):=HF.out h2;have aj:(vf qp 2 !=0)=true:=by simpa using h2
         clear HF HM h2;generalize vf qp 2=r at*
         go_wp2
         go_ret;exact⟨by rw[E2.out];rfl,A⟩
       ·have E2:Hid (E=vf qr 1):=T.out h1;have ag:(vf qr 1 !=0)=true:=by simpa using h1
        clear T U HN h1 X;generalize vf qr 1=r at*
        go_wp2
        go_ret;exact⟨by rw[E2.out];rfl,A⟩
      ·have ad:k=d.length:=by omega
       subst ad;have E2:Hid (E=vf dec 1):=by
        have:=N.out;rw[if_pos (z2V _ (by simpa using HA.out))]at this;exact this
       have J:intK.At wr vd dec:=I.dec;obtain⟨da,dk,rfl⟩:=J.shape;have M:=z08 da dk dec 1 wr (z0P J).2 (by omega);clear HA N J
       go_wp2_with fail
       refine M.mono ?_;rintro e w2 ⟨rfl,z⟩;replace D:=D.trans (z.mono D.size);generalize vf dec 1=r at*;clear M c0 c1 c2 c3 z I
       go_wp2
       go_ret;exact⟨by rw[E2.out];rfl,D⟩
  ·have E1:Hid (E=batF (y.map S)):=by
    have:=HE.out;rw[if_neg (by simp),if_pos ⟨by simp,h1⟩]at this;exact this
   have ag:(batF (y.map S) !=0)=true:=by simpa using h1
   clear HE h1;generalize batF (y.map S)=r at*
   go_wp2
   go_ret;exact⟨by rw[E1.out];rfl,hB⟩
theorem z7i(p:InstQ)(w:World)(h:instK.rd w p)(hl:p.n≤1048576):
  Calls Tryz.prog 126 #[.agg #[.bool p.has,p.vb,p.vr,p.vd]] w fun e w'=>e=.returned (.int .i64 (shpF p.e))∧Below w.heap.size w w':=by
 obtain⟨has,vb,d,vr,c,vd,dec⟩:=p;dsimp only[InstQ.n]at hl;have HE:Hid (shpF (InstQ.e ⟨has,vb,d,vr,c,vd,dec⟩)=if has=false∧0 < (d.map S).length then 1 else
  if has=true∧batF (d.map S)≠0 then batF (d.map S)else
  if(c.map G).length<1∨4<(c.map G).length then 2 else
  if z0R (c.map G)=0 then vf dec 1 else z0R (c.map G)):=by
  exact(rfl:shpF _=_)
 generalize shpF (InstQ.e ⟨has,vb,d,vr,c,vd,dec⟩)=E at HE⊢;obtain⟨hT,hR,hD⟩:txnK.At w vb d∧roundK.At w vr c∧intK.At w vd dec:=h;obtain⟨ba,bk,rfl⟩:=hT.shape;obtain⟨va,vk,rfl⟩:=hR.shape;obtain⟨da,dk,rfl⟩:=hD.shape;have hv:=fun w h=>z6m (K ba d.length bk) (d.map S) w h (by rw[Q,q2b];omega)
 have hB:Below w.heap.size w (w.alloc (.cells #[.bool has,K ba d.length bk,K va c.length vk,K da dec.length dk] 89)):=by go_grown
 have Bx:=Blk.new w 89 #[.bool has,K ba d.length bk,K va c.length vk,K da dec.length dk];replace hT:=hT.below hB;replace hR:=hR.below hB;replace hD:=hD.below hB
 cases has with
 |false=>
  by_cases h0:0<d.length
  ·have E1:Hid (E=1):=by rw[HE.out,if_pos ⟨rfl,by simpa using h0⟩];rfl
   clear HE hv;go_enter func126,ntmps126
   go_wp2
   go_ret;exact⟨by rw[E1.out];rfl,hB⟩
  ·have HS:Hid (E=if(c.map G).length<1∨4<(c.map G).length then 2 else if z0R (c.map G)=0 then vf dec 1 else z0R (c.map G)):=by
    have:=HE.out;rw[if_neg (fun h=>h0 (by simpa using h.2)),if_neg (by simp)]at this;exact this
   clear HE hv;have ai:¬(0:Int)<d.length:=by omega
   go_enter func126,ntmps126;by_cases T:c.length<1
   ·have E2:Hid (E=2):=by rw[HS.out,if_pos (Or.inl (by simpa using T))];rfl
    clear HS
    go_wp2
    go_ret;exact⟨by rw[E2.out];rfl,hB⟩
   ·by_cases U:4<c.length
    ·have E2:Hid (E=2):=by rw[HS.out,if_pos (Or.inr (by simpa using U))];rfl
     clear HS
     go_wp2
     go_ret;exact⟨by rw[E2.out];rfl,hB⟩
    ·have D:Hid (E=if z0R (c.map G)=0 then vf dec 1 else z0R (c.map G)):=by
      have:=HS.out;rw[if_neg (by simp only[Q];omega)]at this;exact this
     have ad:¬(c.length:Int)<1:=by omega
     have ae:¬(4:Int)<c.length:=by omega
     clear HS T U
     go_wp2
     generalize (w.alloc (.cells #[.bool false,K ba d.length bk,K va c.length vk,K da dec.length dk] 89))=W at*;go_loopw[38] (fun j wr=>∃k:Nat,k≤c.length∧j=.int .i64 k∧Hid (∀j,j<k→vf ((c.map G).getD j z0I).rep 1=0∧vf ((c.map G).getD j z0I).pro 2=0)∧Below W.heap.size W wr) (fun j _=>c.length-(intOf j).toNat)
     case atStart=>exact⟨0,Nat.zero_le _,rfl,fun j hj=>absurd hj (Nat.not_lt_zero _),Below.refl _ _⟩
     case round=>
      obtain⟨k,hk,rfl,HA,hb⟩:=hrel;have A:=hB.trans (hb.mono hB.size);by_cases C:k<c.length
      ·obtain⟨rb,ro,rfl,ag,hc,aa⟩:=(hR.below hb).cell (by decide) k C;have N:∀j x,(roundK.cells c[k])[j]?=some x→wr.cell? ⟨rb,ro+k*2+j,none⟩=some x:=hc;have r0:=N 0 (c[k].vr) rfl;have r1:=N 1 (c[k].vp) rfl;have ah:=q0e c k C;have y:=z2l (c.map G) k HA.out (by simpa using C);rw[z1u c k C]at y;dsimp only[G]at y;have J:Hid (vf c[k].rep 1≠0→E=vf c[k].rep 1):=fun h=>by rw[D.out,y.1 h,if_neg h]
       have L:Hid (vf c[k].rep 1=0→vf c[k].pro 2≠0→E=vf c[k].pro 2):=fun h h2=>by rw[D.out,y.2 h h2,if_neg h2]
       have HN:Hid (vf c[k].rep 1=0→vf c[k].pro 2=0→∀j,j<k+1→vf ((c.map G).getD j z0I).rep 1=0∧vf ((c.map G).getD j z0I).pro 2=0):=by
        intro h1 h2 j hj;by_cases Y:j=k
        ·subst Y;rw[z1u c j C];exact⟨h1,h2⟩
        ·exact HA.out j (by omega)
       clear HA y hc N;generalize c[k]=q at*;obtain⟨qv,qr,qw,qp⟩:=q;obtain⟨rA,rP⟩:intK.At wr qv qr∧intK.At wr qw qp:=aa;dsimp only at*;obtain⟨ra,rk,rfl⟩:=rA.shape;obtain⟨pa,pk,rfl⟩:=rP.shape;have M:Below wr.heap.size wr (wr.alloc (.cells #[K ra qr.length rk,K pa qp.length pk] 171)):=by go_grown
       have V:=hb.alloc hb.size (.cells #[K ra qr.length rk,K pa qp.length pk] 171);have A:=A.alloc A.size (.cells #[K ra qr.length rk,K pa qp.length pk] 171);have Bx:=Blk.new wr 171 #[K ra qr.length rk,K pa qp.length pk];have z:=z0E ra rk qr 1 _ (z0P (rA.below M)).2 (by omega);have I:=z0E pa pk qp 2 _ (z0P (rP.below M)).2 (by omega);rw[q51]at z;rw[q6D]at I;rw[Nat.add_zero]at r0;clear rA rP M
       go_wp2_with fail
       generalize wr.alloc (.cells #[K ra qr.length rk,K pa qp.length pk] 171)=X at*;refine z.mono ?_;rintro e w2 ⟨rfl,hw⟩;replace hw:=hw.symm;subst hw;clear z r0 r1;by_cases h1:vf qr 1=0
       ·have HF:Hid (vf qp 2≠0→E=vf qp 2):=L.out h1;have HM:Hid (vf qp 2=0→_):=HN.out h1;rw[h1];clear J L HN h1;have p1:=Bx.cell 1 _ rfl
        go_wp2_with fail
        refine I.mono ?_;rintro e w2 ⟨rfl,hw⟩;replace hw:=hw.symm;subst hw;clear I p1 Bx;by_cases h2:vf qp 2=0
        ·have R:=HM.out h2;have HR:Hid _:=R;rw[h2];clear HF HM R h2
         go_wp2
         go_roundw
         case rel=>exact⟨k+1,by omega,by go_num,HR.out,V⟩
         case measure=>simp[intOf];omega
        ·have E2:Hid (E=vf qp 2):=HF.out h2;have af:(vf qp 2 !=0)=true:=by simpa using h2
         clear HF HM h2;generalize vf qp 2=r at*
         go_wp2
         go_ret;exact⟨by rw[E2.out];rfl,A⟩
       ·have E2:Hid (E=vf qr 1):=J.out h1;have ab:(vf qr 1 !=0)=true:=by simpa using h1
        clear J L HN h1 I;generalize vf qr 1=r at*
        go_wp2
        go_ret;exact⟨by rw[E2.out];rfl,A⟩
      ·have Z:k=c.length:=by omega
       subst Z;have E2:Hid (E=vf dec 1):=by
        have:=D.out;rw[if_pos (z2V _ (by simpa using HA.out))]at this;exact this
       have Br:=Bx.below hb;have c3:=Br.cell 3 _ rfl;have z:=z0E da dk dec 1 wr (z0P (hD.below hb)).2 (by omega);rw[q51]at z;clear HA D
       go_wp2_with fail
       refine z.mono ?_;rintro e w2 ⟨rfl,hw⟩;replace hw:=hw.symm;subst hw;generalize vf dec 1=r at*;clear z c3
       go_wp2
       go_ret;exact⟨by rw[E2.out];rfl,A⟩
 |true=>
  go_enter func126,ntmps126
  go_wp2_with fail
  generalize w.alloc (.cells #[.bool true,K ba d.length bk,K va c.length vk,K da dec.length dk] 89)=W at*;refine(hv W (z8o hT)).mono ?_;rintro e w1 ⟨rfl,O⟩;replace hR:=hR.below O;replace hD:=hD.below O;replace Bx:=Bx.below O;replace hB:=hB.trans (O.mono hB.size);clear hv O hT;by_cases h1:batF (d.map S)=0
  ·have HS:Hid (E=if(c.map G).length<1∨4<(c.map G).length then 2 else if z0R (c.map G)=0 then vf dec 1 else z0R (c.map G)):=by
    have:=HE.out;rw[if_neg (by simp),if_neg (fun h=>h.2 h1)]at this;exact this
   rw[h1];clear HE h1;by_cases T:c.length<1
   ·have E2:Hid (E=2):=by rw[HS.out,if_pos (Or.inl (by simpa using T))];rfl
    clear HS;obtain⟨c0,c1,c2⟩:=Bx.cel3
    go_wp2
    go_ret;exact⟨by rw[E2.out];rfl,hB⟩
   ·by_cases U:4<c.length
    ·have E2:Hid (E=2):=by rw[HS.out,if_pos (Or.inr (by simpa using U))];rfl
     clear HS;obtain⟨c0,c1,c2⟩:=Bx.cel3
     go_wp2
     go_ret;exact⟨by rw[E2.out];rfl,hB⟩
    ·have D:Hid (E=if z0R (c.map G)=0 then vf dec 1 else z0R (c.map G)):=by
      have:=HS.out;rw[if_neg (by simp only[Q];omega)]at this;exact this
     have ad:¬(c.length:Int)<1:=by omega
     have ae:¬(4:Int)<c.length:=by omega
     clear HS T U;obtain⟨c0,c1,c2⟩:=Bx.cel3
     go_wp2
     clear c0 c1 c2;go_loopw[38] (fun j wr=>∃k:Nat,k≤c.length∧j=.int .i64 k∧Hid (∀j,j<k→vf ((c.map G).getD j z0I).rep 1=0∧vf ((c.map G).getD j z0I).pro 2=0)∧Below w1.heap.size w1 wr) (fun j _=>c.length-(intOf j).toNat)
     case atStart=>exact⟨0,Nat.zero_le _,rfl,fun j hj=>absurd hj (Nat.not_lt_zero _),Below.refl _ _⟩
     case round=>
      obtain⟨k,hk,rfl,HA,hb⟩:=hrel;have A:=hB.trans (hb.mono hB.size);by_cases C:k<c.length
      ·obtain⟨rb,ro,rfl,ag,hc,aa⟩:=(hR.below hb).cell (by decide) k C;have N:∀j x,(roundK.cells c[k])[j]?=some x→wr.cell? ⟨rb,ro+k*2+j,none⟩=some x:=hc;have r0:=N 0 (c[k].vr) rfl;have r1:=N 1 (c[k].vp) rfl;have ah:=q0e c k C;have y:=z2l (c.map G) k HA.out (by simpa using C);rw[z1u c k C]at y;dsimp only[G]at y;have J:Hid (vf c[k].rep 1≠0→E=vf c[k].rep 1):=fun h=>by rw[D.out,y.1 h,if_neg h]
       have L:Hid (vf c[k].rep 1=0→vf c[k].pro 2≠0→E=vf c[k].pro 2):=fun h h2=>by rw[D.out,y.2 h h2,if_neg h2]
       have HN:Hid (vf c[k].rep 1=0→vf c[k].pro 2=0→∀j,j<k+1→vf ((c.map G).getD j z0I).rep 1=0∧vf ((c.map G).getD j z0I).pro 2=0):=by
        intro h1 h2 j hj;by_cases Y:j=k
        ·subst Y;rw[z1u c j C];exact⟨h1,h2⟩
        ·exact HA.out j (by omega)
       clear HA y hc N;generalize c[k]=q at*;obtain⟨qv,qr,qw,qp⟩:=q;obtain⟨rA,rP⟩:intK.At wr qv qr∧intK.At wr qw qp:=aa;dsimp only at*;obtain⟨ra,rk,rfl⟩:=rA.shape;obtain⟨pa,pk,rfl⟩:=rP.shape;have M:Below wr.heap.size wr (wr.alloc (.cells #[K ra qr.length rk,K pa qp.length pk] 171)):=by go_grown
       have V:=hb.alloc hb.size (.cells #[K ra qr.length rk,K pa qp.length pk] 171);have A:=A.alloc A.size (.cells #[K ra qr.length rk,K pa qp.length pk] 171);have Bx:=Blk.new wr 171 #[K ra qr.length rk,K pa qp.length pk];have z:=z0E ra rk qr 1 _ (z0P (rA.below M)).2 (by omega);have I:=z0E pa pk qp 2 _ (z0P (rP.below M)).2 (by omega);rw[q51]at z;rw[q6D]at I;rw[Nat.add_zero]at r0;clear rA rP M
       go_wp2_with fail
       generalize wr.alloc (.cells #[K ra qr.length rk,K pa qp.length pk] 171)=X at*;refine z.mono ?_;rintro e w2 ⟨rfl,hw⟩;replace hw:=hw.symm;subst hw;clear z r0 r1;by_cases h1:vf qr 1=0
       ·have HF:Hid (vf qp 2≠0→E=vf qp 2):=L.out h1;have HM:Hid (vf qp 2=0→_):=HN.out h1;rw[h1];clear J L HN h1;have p1:=Bx.cell 1 _ rfl
        go_wp2_with fail
        refine I.mono ?_;rintro e w2 ⟨rfl,hw⟩;replace hw:=hw.symm;subst hw;clear I p1 Bx;by_cases h2:vf qp 2=0
        ·have R:=HM.out h2;have HR:Hid _:=R;rw[h2];clear HF HM R h2
         go_wp2
         go_roundw
         case rel=>exact⟨k+1,by omega,by go_num,HR.out,V⟩
         case measure=>simp[intOf];omega
        ·have E2:Hid (E=vf qp 2):=HF.out h2;have af:(vf qp 2 !=0)=true:=by simpa using h2
         clear HF HM h2;generalize vf qp 2=r at*
         go_wp2
         go_ret;exact⟨by rw[E2.out];rfl,A⟩
       ·have E2:Hid (E=vf qr 1):=J.out h1;have ab:(vf qr 1 !=0)=true:=by simpa using h1
        clear J L HN h1 I;generalize vf qr 1=r at*
        go_wp2
        go_ret;exact⟨by rw[E2.out];rfl,A⟩
      ·have Z:k=c.length:=by omega
       subst Z;have E2:Hid (E=vf dec 1):=by
        have:=D.out;rw[if_pos (z2V _ (by simpa using HA.out))]at this;exact this
       have Br:=Bx.below hb;have c3:=Br.cell 3 _ rfl;have z:=z0E da dk dec 1 wr (z0P (hD.below hb)).2 (by omega);rw[q51]at z;clear HA D
       go_wp2_with fail
       refine z.mono ?_;rintro e w2 ⟨rfl,hw⟩;replace hw:=hw.symm;subst hw;generalize vf dec 1=r at*;clear z c3
       go_wp2
       go_ret;exact⟨by rw[E2.out];rfl,A⟩
  ·have E1:Hid (E=batF (d.map S)):=by
    have:=HE.out;rw[if_neg (by simp),if_pos ⟨by simp,h1⟩]at this;exact this
   have ab:(batF (d.map S) !=0)=true:=by simpa using h1
   clear HE h1;generalize batF (d.map S)=r at*
   go_wp2
   go_ret;exact⟨by rw[E1.out];rfl,hB⟩
end Go.Proofs.YtjjoahhnkpjolaaGreatDoor

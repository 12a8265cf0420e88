/- Texts joined,with what the laws reach alone. -/
import Derived.Test.YtciofogeiohleaaGreatDoorCOAN
import Derived.Maps.Own
import Derived.Maps.Keyed
import Derived.Maps.Views
import Derived.DeepKeys4
import Derived.Maps.OwnSet
import Derived.WideKeyEntry
import Derived.ScopeJumps
import Derived.WalkMore
set_option linter.unusedVariables false
set_option linter.unusedSimpArgs false
set_option maxRecDepth 100000
set_option maxHeartbeats 8000000
namespace Go.Proofs.YtciofogeiohleaaGreatDoor
open Go.RowKit Go.BigFrame
theorem rgtb{x:InstE}(h:insF x=0):x.has=false→x.batch=[]:=by
 obtain⟨h0,_⟩:=z1p h;exact(z05 h0).2.2.2.1
theorem batp{p:InstQ}(h:insF (InstQ.e p)=0)(hh:p.has=true):0<p.batch.length:=by
 obtain⟨h0,_⟩:=z1p h;have:=(z05 h0).2.2.2.2 hh;unfold batF at this;by_cases hl:(InstQ.e p).batch.length<1∨4<(InstQ.e p).batch.length
 ·rw[if_pos hl]at this;exact absurd this (by decide)
 ·have h2:(InstQ.e p).batch.length=p.batch.length:=by show(p.batch.map TxnQ.e).length=_;simp
  omega
theorem q0q{ds:List InstE}(k:Nat)(hk:k<ds.length)(h0:insF (ds.getD k z0D)=0)(h:((ds.getD k z0D).has && (ocV (ds.getD k z0D)==1))=true):z2P (ds.take (k+1))=z2P (ds.take k)++(ds.getD k z0D).batch:=by
 rw[z4x ds k hk];rw[Bool.and_eq_true,beq_iff_eq]at h;have hv:=h.2;unfold ocV at hv;rw[if_pos h0]at hv;by_cases h3:outV (ds.getD k z0D).dec=3
 ·rw[if_pos h3]at hv;exact absurd hv (by decide)
 ·rw[if_neg h3]at hv;rw[if_pos hv]
theorem q07{ds:List InstE}(k:Nat)(hk:k<ds.length)(h0:insF (ds.getD k z0D)=0)(h:((ds.getD k z0D).has && (ocV (ds.getD k z0D)==1))=false):z2P (ds.take (k+1))=z2P (ds.take k):=by
 rw[z4x ds k hk];rw[Bool.and_eq_false_iff]at h;have hb0:=(rgtb h0)
 rcases h with h|h
 ·rw[hb0 h];simp
 ·have hv:¬ocV (ds.getD k z0D)=1:=by simpa using h
  unfold ocV at hv;rw[if_pos h0]at hv;by_cases h3:outV (ds.getD k z0D).dec=3
  ·rw[if_neg (by rw[h3];decide)];simp
  ·rw[if_neg h3]at hv;rw[if_neg hv];simp
theorem z6F(v:Value)(ps:List InstQ)(w:World)(hG:Rul w)(h:instK.At w v ps)(ar:∀p∈ps,insF (InstQ.e p)=0)(h4:ps.length≤4)(hl:(ps.length+nmL InstQ.n ps)≤1048576):
  Calls Tryz.prog 41 #[v] w fun e w'=>∃ (v':Value) (qs:List TxnQ),e=.returned v'∧qs.map TxnQ.e=z2P (ps.map InstQ.e)∧qs.length≤16∧w'.ownsRow w.heap.size 44 4 v' qs.length (txnK.row qs)∧(∀q∈qs,txnK.rd w q)∧Below w.heap.size w w':=by
 obtain⟨a,cap,rfl⟩:=h.shape;obtain⟨i0,hi,ax,ay,az⟩:=info_parts z1G;have ag:w.ownsRow w.heap.size 44 4 (.slice none 0 0) ([]:List TxnQ).length (txnK.row []):=World.ownsRow_nil _ _ _ _;have aa:Hid (([]:List TxnQ).map TxnQ.e=z2P ((ps.map InstQ.e).take 0)):=by show _=_;simp[z2P]
 have ab:Hid (([]:List TxnQ).length≤4*0):=by show _≤_;simp
 have ae:Hid (∀q∈([]:List TxnQ),txnK.rd w q):=fun q hq=>by simp at hq
 go_enter Tryz.func41,Tryz.ntmps41
 go_wp2
 go_loopw[3,8] (fun v j wr=>∃ (k:Nat) (qs:List TxnQ),k≤ps.length∧j=.int .i64 k∧Hid (qs.map TxnQ.e=z2P ((ps.map InstQ.e).take k))∧Hid (qs.length≤4*k)∧wr.ownsRow w.heap.size 44 4 v qs.length (txnK.row qs)∧Hid (∀q∈qs,txnK.rd w q)∧Below w.heap.size w wr) (fun _ j _=>ps.length-(intOf j).toNat)
 case atStart=>exact⟨0,[],Nat.zero_le _,rfl,aa,ab,ag,ae,Below.refl _ _⟩
 case round=>
  clear aa ab ag ae;obtain⟨k,qs,hk,rfl,HE,HL,hO,HR,hb⟩:=hrel;obtain⟨sa,sc,rfl⟩:=z0p hO;by_cases z:k<ps.length
  ·have h0:=ar _ (List.getElem_mem z);have y:=z4u ps k z;have HY:Hid ((ps[k].has && (ocV (InstQ.e ps[k])==1))=true→z2P ((ps.map InstQ.e).take (k+1))=qs.map TxnQ.e++ps[k].batch.map TxnQ.e):=fun hx=>by
    rw[HE.out];have:=q0q (ds:=ps.map InstQ.e) k (by simpa using z) (by rw[y];exact h0) (by rw[y];exact hx);rw[y]at this;exact this
   have HN:Hid ((ps[k].has && (ocV (InstQ.e ps[k])==1))=false→z2P ((ps.map InstQ.e).take (k+1))=qs.map TxnQ.e):=fun hx=>by
    rw[HE.out];exact q07 (ds:=ps.map InstQ.e) k (by simpa using z) (by rw[y];exact h0) (by rw[y];exact hx)
   have am:=q1O h0;have C:Hid (ps[k].has=true→0<ps[k].batch.length):=fun hx=>batp h0 hx
   have hn:InstQ.n ps[k]≤1048576:=by have:=z3F ps k z;omega
   have N:=z2g ps[k];have J:=fun w hG h=>N w hG h hn
   obtain⟨b,aA,rfl,ap,hc,M⟩:=h.cell (by decide) k z;have E:∀j x,(instK.cells ps[k])[j]?=some x→w.cell? ⟨b,aA+k*4+j,none⟩=some x:=hc;have c0:=z03 (E 0 (.bool ps[k].has) rfl) hb;have c1:=z03 (E 1 ps[k].vb rfl) hb;have c2:=z03 (E 2 ps[k].vr rfl) hb;have c3:=z03 (E 3 ps[k].vd rfl) hb;rw[Nat.add_zero]at c0;have aB:b<wr.heap.size:=Nat.lt_of_lt_of_le ap hb.size;clear hc E N h0 y HE;generalize ocC (InstQ.e ps[k])=OC at*;generalize ocV (InstQ.e ps[k])=OV at*;generalize ps[k]=p at*;obtain⟨has,vb,d,vr,r,vd,dec⟩:=p;have hT:txnK.At w vb d:=M.1;obtain⟨ba,bk,rfl⟩:=hT.shape;obtain⟨va,vk,rfl⟩:∃a c,vr=.slice a r.length c:=M.2.1.shape;obtain⟨da,dk,rfl⟩:∃a c,vd=.slice a dec.length c:=M.2.2.shape;dsimp only at c0 c1 c2 c3 J HY HN am C;have Z:Below wr.heap.size wr (wr.alloc (.cells #[.bool has,.slice ba d.length bk,.slice va r.length vk,.slice da dec.length dk] 49)):=by go_grown
   have Yb:=Blk.new wr 49 #[.bool has,.slice ba d.length bk,.slice va r.length vk,.slice da dec.length dk];replace hO:=z0n hO Z;replace hb:=hb.trans (Z.mono hb.size);have aC:=q0n OC OV;have ad:Hid (qs.length≤16):=show _≤_ by have:=HL.out;omega
   cases has with
   |false=>
    have D:Hid (qs.map TxnQ.e=z2P ((ps.map InstQ.e).take (k+1))):=show _=_ by rw[HN.out rfl]
    have A:Hid (qs.length≤4*(k+1)):=show _≤_ by have:=HL.out;omega
    clear HY HN C HL J Yb
    go_wp2_with fail
    generalize wr.alloc (.cells #[.bool false,.slice ba d.length bk,.slice va r.length vk,.slice da dec.length dk] 49)=Y at*
    go_wp2
    go_roundw
    case rel=>exact⟨k+1,qs,by omega,by go_num,D,A,hO,HR,hb⟩
    case measure=>simp[intOf];omega
   |true=>
    have ak:=instK.rd_below (w':=wr.alloc (.cells #[.bool true,.slice ba d.length bk,.slice va r.length vk,.slice da dec.length dk] 49)) M hb
    go_wp2_with fail
    generalize wr.alloc (.cells #[.bool true,.slice ba d.length bk,.slice va r.length vk,.slice da dec.length dk] 49)=Y at*;clear c0 c1 c2 c3 Z;refine(J Y (hG.below hb) ak).mono ?_;rintro e w2 ⟨rfl,I⟩;replace hO:=z0n hO I;replace hb:=hb.trans (I.mono hb.size);replace Yb:=Yb.below I;clear I J ak
    cases hv:(OV==1)with
    |false=>
     have D:Hid (qs.map TxnQ.e=z2P ((ps.map InstQ.e).take (k+1))):=show _=_ by rw[HN.out (by rw[hv];rfl)]
     have A:Hid (qs.length≤4*(k+1)):=show _≤_ by have:=HL.out;omega
     clear HY HN C HL Yb
     go_wp2
     go_roundw
     case rel=>exact⟨k+1,qs,by omega,by go_num,D,A,hO,HR,hb⟩
     case measure=>simp[intOf];omega
    |true=>
     have af:=HY.out (by rw[hv];rfl);have av:=C.out (by simp);have D:Hid ((qs++d).map TxnQ.e=z2P ((ps.map InstQ.e).take (k+1))):=show _=_ by rw[af,List.map_append]
     have A:Hid ((qs++d).length≤4*(k+1)):=show _≤_ by have:=HL.out;rw[List.length_append];omega
     have al:Hid (∀q∈qs++d,txnK.rd w q):=fun q hq=>by
      rcases List.mem_append.1 hq with hq|hq
      ·exact HR.out q hq
      ·obtain⟨a9,c9,e9,W,L⟩:=hT;exact L q hq
     have X:=hT.below hb;obtain⟨bb,bo,ao⟩:∃bb bo,ba=some ⟨bb,bo,none⟩:=by
      obtain⟨b9,o9,e9,_⟩:=X.cell (by decide) 0 av;exact⟨b9,o9,e9⟩
     subst ao;have V:∀j u,(txnK.row d)[j]?=some u→w2.cell? ((⟨bb,bo,none⟩:Addr).add j)=some u:=fun j u hu=>by
      obtain⟨a9,c9,e9,W,L⟩:=X;simp only[Value.slice.injEq]at e9;obtain⟨rfl,_,rfl⟩:=e9;rcases W with h9|⟨b9,o9,ea,_,aq⟩
      ·rw[h9]at hu;simp at hu
      ·simp only[Option.some.injEq,Addr.mk.injEq,and_true]at ea;obtain⟨rfl,rfl⟩:=ea;rw[Addr.add_lit];exact aq j u hu
     have O:∀u∈txnK.row d,u.oneCell'=true:=fun u hu=>by
      obtain⟨q,hq,hu⟩:=List.mem_flatMap.1 hu;have aw:∃a c,q.va=.slice a q.acts.length c:=by
       obtain⟨a9,c9,e9,W,L⟩:=hT;have h9:actK.At w q.va q.acts:=L q hq;exact h9.shape
      obtain⟨a9,c9,e9⟩:=aw;have aj:u∈[Value.int .i64 q.i,.int .i64 q.s,.int .i64 q.q,q.va]:=hu;simp only[List.mem_cons,List.not_mem_nil,or_false]at aj;rcases aj with rfl|rfl|rfl|rfl
      ·rfl
      ·rfl
      ·rfl
      ·rw[e9];rfl
     have ai:(txnK.row d).length=d.length*4:=Kind.row_length d;have y1:=Yb.cell 1 _ rfl;clear HY HN C HL HR af
     go_wp2_with (at_builtin;refine wpList_append_own_at _ rfl _ _ 27 rfl w.heap.size 44 i0 (.agg #[.int .i64 0,.int .i64 0,.int .i64 0,.slice none 0 0]) 4 48 Tryz.underlying27 hi ax ay az rfl (by decide) _ qs.length (txnK.row qs) rfl hO ⟨bb,bo,none⟩ d.length bk (txnK.row d) rfl ai V O ?c3 ?c4 ?c5 ?_)
     all_goals try(case c3=>have:=ad.out;unfold maxLen;omega)
     all_goals try(case c4=>have:=ad.out;omega)
     all_goals try(case c5=>exact hb.size)
     intro v' w5 T G ah y;have U:txnK.row (qs++d)=txnK.row qs++txnK.row d:=by simp[Kind.row]
     rw[←U,←List.length_append]at T;have an:Below w.heap.size w w5:=hb.grown G hb.size (fun j hj=>(hO.lt j hj).1);clear ah y G U hO V O ai y1 Yb X hb
     go_wp2
     go_roundw
     case rel=>exact⟨k+1,_,by omega,by go_num,D,A,T,al,an⟩
     case measure=>simp[intOf];omega
  ·have au:k=ps.length:=by omega
   subst au;have hE:=HE.out;rw[List.take_of_length_le (by simp)]at hE;have hL:=HL.out;clear HE
   go_wp2
   go_ret;first|exact⟨_,qs,rfl,hE,by omega,hO,HR.out,hb⟩|exact⟨_,rfl,qs,hE,by omega,hO,HR.out,hb⟩
section
open Go.Maps
theorem q08:laidOutB Tryz.prog=true:=by kernel_rfl
theorem q09:(144:TypeId)<Tryz.prog.types.size:=of_decide_eq_true (by kernel_rfl)
theorem z9I:(match Tryz.prog.underlying 144 with|some (.array _ _)|some (.struct _)=>true|_=>false)=true:=by kernel_rfl
theorem lawNm:Keyed Tryz.prog 144:=Keyed.of_law (deep_law_laid q08 (m:=2) (by omega) q09 (by kernel_rfl) z9I)
theorem q1a:Tryz.prog.keyType 144=true:=by kernel_rfl
theorem szP:∃m,Tryz.prog.types.size+1=m+2:=⟨_,rfl⟩
theorem q1b(i s q:Int)(hi:(Lit.int .i64 i).wf=true)(hs:(Lit.int .i64 s).wf=true)(hq:(Lit.int .i64 q).wf=true):∃l,keyOf Tryz.prog 144 (.agg #[.int .i64 i,.int .i64 s,.int .i64 q])=some l:=by
 obtain⟨m,hm⟩:=szP;have hc:Tryz.prog.cellsOf 144=3:=by kernel_rfl
 have hc1:Tryz.prog.cellsOf 2=1:=by kernel_rfl
 have hf:(Value.agg #[.int .i64 i,.int .i64 s,.int .i64 q]).formed Tryz.prog 144=true:=by
  simp[Value.formed,Tryz.underlying144,hc]
 unfold keyOf;rw[Tryz.underlying144];simp only[q1a,hf,Bool.and_self,if_true,hm];simp[Program.keyLits,Tryz.underlying144,Tryz.underlying2,hc,hc1,Value.cells,hi,hs,hq]
abbrev Nm:=Int × Int × Int
def nmV(x:Nm):Value:=.agg #[.int .i64 x.1,.int .i64 x.2.1,.int .i64 x.2.2]
def nmW(x:Nm):Prop:=(Lit.int .i64 x.1).wf=true∧(Lit.int .i64 x.2.1).wf=true∧(Lit.int .i64 x.2.2).wf=true
noncomputable def kyL (x:Nm):Lit:=(keyOf Tryz.prog 144 (nmV x)).getD (.bool false)
theorem z3k{x:Nm}(h:nmW x):keyOf Tryz.prog 144 (nmV x)=some (kyL x):=by
 obtain⟨l,hl⟩:=q1b x.1 x.2.1 x.2.2 h.1 h.2.1 h.2.2;have e:keyOf Tryz.prog 144 (nmV x)=some l:=hl;unfold kyL;rw[e];rfl
theorem q0r{x y:Nm}(hx:nmW x)(hy:nmW y)(h:kyL x=kyL y):x=y:=by
 have e1:=z3k hx;have e2:=z3k hy;rw[←h]at e2;have e:=lawNm.inj e1 e2;obtain⟨a,b,c⟩:=x;obtain⟨a',b',c'⟩:=y;simp[nmV]at e;obtain⟨rfl,rfl,rfl⟩:=e;rfl
def Cnt{H:Type}(D:DataW H)(ns:List Nm):Prop:=IsMap D∧∀x,nmW x→D.atKey (kyL x) (.lit (.int .i64 0))=.lit (.int .i64 (ns.count x))
theorem Cnt.none{H:Type}:Cnt (H:=H) (.map []) []:=⟨⟨[],rfl⟩,fun x _=>rfl⟩
theorem Cnt.put{H:Type}{D:DataW H}{ns:List Nm}(h:Cnt D ns){x:Nm}(hx:nmW x):Cnt (D.put (kyL x) (.lit (.int .i64 ((ns.count x:Int)+1)))) (ns++[x]):=by
 refine⟨h.1.put _ _,fun y hy=>?_⟩;by_cases e:y=x
 ·subst e;rw[atKey_put_same h.1 (lawNm.key (z3k hx))];simp[List.count_append]
 ·rw[atKey_put_other (fun e1=>e (q0r hy hx e1)),h.2 y hy];have:[x].count y=0:=List.count_eq_zero.2 (by simpa using e);simp[List.count_append,this]
def nmA(t:TxnD):Nm:=(t.id,0,0)
def nmB(t:TxnD):Nm:=(0,t.session,t.seq)
def nms(acc:List TxnD):List Nm:=acc.flatMap (fun t=>[nmA t,nmB t])
theorem z9u(acc:List TxnD)(t:TxnD):nms (acc++[t])=nms acc++[nmA t]++[nmB t]:=by
 simp[nms]
theorem z8C(acc:List TxnD):(nms acc).length=2*acc.length:=by
 induction acc with
 |nil=>rfl
 |cons a r ih=>
  have:nms (a::r)=nmA a::nmB a::nms r:=rfl;rw[this];simp only[List.length_cons,ih];omega
theorem z6G{acc:List TxnD}{t:TxnD}(ha:∀x∈acc,1≤x.id)(ht:1≤t.id):knw acc t=true↔0<(nms acc).count (nmA t)∨0<(nms acc).count (nmB t):=by
 rw[List.count_pos_iff,List.count_pos_iff];unfold knw nms stF;rw[List.any_eq_true];constructor
 ·rintro⟨x,hx,h⟩;simp only[Bool.or_eq_true,Bool.and_eq_true,beq_iff_eq]at h;rcases h with h|⟨h1,h2⟩
  ·exact Or.inl (List.mem_flatMap.2 ⟨x,hx,by simp[nmA,h]⟩)
  ·exact Or.inr (List.mem_flatMap.2 ⟨x,hx,by simp[nmB,h1,h2]⟩)
 ·rintro(h|h)
  ·obtain⟨x,hx,h⟩:=List.mem_flatMap.1 h;have hx1:=ha x hx;simp only[nmA,nmB,List.mem_cons,Prod.mk.injEq,List.not_mem_nil,or_false]at h;rcases h with h|h
   ·exact⟨x,hx,by simp[h.1]⟩
   ·omega
  ·obtain⟨x,hx,h⟩:=List.mem_flatMap.1 h;have hx1:=ha x hx;simp only[nmA,nmB,List.mem_cons,Prod.mk.injEq,List.not_mem_nil,or_false]at h;rcases h with h|h
   ·omega
   ·exact⟨x,hx,by simp[h.2.1,h.2.2]⟩
end
section
open Go.Maps Go.WideShapes Go.MapKept Go.ChangeMaps Go.ChangeShapes Go.WideElems
theorem z8D{H:Type}{P:Program}{w:World}{t k e:TypeId}{R:Value→Option (DataW H × List MemPlace)}{b n:Nat}{D:DataW H}(h:w.ownsMap P k R b n D)(L:Go.WideMaps.KeyLaw P k)
  (ht:P.underlying t=some (.map k e)) {z:Value} (hz:∀u:World,(zeroValue e).run P u=.ok z u) {zd:DataW H} {zp:List MemPlace} (af:R z=some (zd,zp)) (hn:n<maxLen)
  {key:Value} {kl:Lit} (q:keyOf P k key=some kl):
  ∃ (v0:Value) (st:Nat) (w1:World) (D1:DataW H),(Instr.mapEntry t (.map (some b)) key).run P w=.ok (.tuple #[v0,goInt st]) w1∧w.mapTurned w1 b∧
   w1.ownsMap P k R b (n+1) D1∧D1.atKey kl zd=D.atKey kl zd∧
   ∀ (w2:World) (E:Value) (d:DataW H) (ps:List MemPlace),w2.heap[b]?=w1.heap[b]?→R E=some (d,ps)→
    ∃w3,(Instr.entryStore t (.map (some b)) (goInt st) E).run P w2=.ok () w3∧w3.ownsMap P k R b (n+1) (D.put kl d)∧w2.mapTurned w3 b:=by
 have K:Keyed P k:=Keyed.of_law L;have h0:=h;obtain⟨es,c,hb,F,hs,hD⟩:=h;obtain⟨v0,st,C,r,hr,hv,ad⟩:=entry_then_store L ht hz hb F q;have M:(setBlock w b (.map C r)).heap[b]?=some (.map C r):=heap_setBlock_same hb _;have O:∃D1,(setBlock w b (.map C r)).ownsMap P k R b (n+1) D1∧D1.atKey kl zd=D.atKey kl zd:=by
  rcases K.find w q es.toList F.keys with⟨h1,h2⟩|⟨j,e0,h1,h2,h3⟩
  ·obtain⟨w',s,A,_⟩:=h0.store K ht hn q af;have e1:(Instr.mapEntry t (.map (some b)) key).run P w=.ok (.tuple #[z,goInt c]) (setBlock w b (.map (es.push ⟨key,z,c⟩) (c+1))):=by
    simp[Instr.mapEntry,run_underlying ht,MapKept.run_getObj_map hb,K.check w false q,h1,hz,MapKept.run_setObj_map _ hb,Result.andThen,setBlock]
   have e2:(Instr.mapUpdate t (.map (some b)) key z).run P w=.ok () (setBlock w b (.map (es.push ⟨key,z,c⟩) (c+1))):=by
    simp[Instr.mapUpdate,run_underlying ht,MapKept.run_getObj_map hb,K.check w false q,h1,MapKept.run_setObj_map _ hb,Result.andThen,setBlock]
   rw[e1]at hr;rw[e2]at s;simp only[Result.ok.injEq,true_and]at s hr;rw[←hr.2,s];refine⟨_,A,?_⟩;rw[atKey_put_same h0.isMap (K.key q)];have ae:(zeroValue e).run P w=.ok z w:=hz w;rcases fit_look false K ht ae hb F q with⟨_,_,V⟩|⟨e0,y,Y,X,_⟩
   ·rw[hD,V zd]
   ·exact absurd X (h2 e0 Y)
  ·have hj:es[j]?=some e0:=by simpa using h2
   have ab:es.modify j (fun e=>{e with key:=key})=es:=by
    apply Array.ext';rw[Array.toList_modify,modify_eq_set _ _ _ _ h2];have:({e0 with key:=key}:MapEntry)=e0:=by rw[←h3]
    rw[this];exact set_self _ _ _ h2
   have e1:(Instr.mapEntry t (.map (some b)) key).run P w=.ok (.tuple #[e0.val,goInt e0.born]) (setBlock w b (.map es c)):=by
    simp[Instr.mapEntry,run_underlying ht,MapKept.run_getObj_map hb,K.check w false q,h1,hj,h3,L.stays w q,ab,MapKept.run_setObj_map _ hb,Result.andThen,setBlock]
   rw[e1]at hr;simp only[Result.ok.injEq]at hr;rw[←hr.2];exact⟨D,⟨es,c,heap_setBlock_same hb _,F,by omega,hD⟩,rfl⟩
 obtain⟨D1,J,N⟩:=O;refine⟨v0,st,_,D1,hr,⟨es,c,C,r,hb,rfl⟩,J,N,fun w2 E d ps h2 T=>?_⟩;have I:=h2.trans M;obtain⟨G,x,Z,aa⟩:=ad w2 E I;obtain⟨w',s,A,_⟩:=h0.store K ht hn q T;rw[aa]at s;simp only[Result.ok.injEq,true_and]at s;refine⟨_,Z,?_,⟨C,r,G,x,I,rfl⟩⟩;rw[←s]at A;obtain⟨U,cx,W,rest⟩:=A;have e3:(setBlock w b (.map G x)).heap[b]?=(setBlock w2 b (.map G x)).heap[b]?:=by
  rw[heap_setBlock_same hb,heap_setBlock_same I]
 exact⟨U,cx,e3▸W,rest⟩
end
section
open Go.Maps
def Cts(w:World)(b:Nat)(ns:List Nm):Prop:=∃D:DataW Unit,w.ownsMap Tryz.prog 144 (plainElem Tryz.prog 2) b ns.length D∧Cnt D ns
theorem q1c:Go.WideMaps.KeyLaw Tryz.prog 144:=deep_law_laid q08 (m:=2) (by omega) q09 (by kernel_rfl) z9I
theorem z8E(u:World):(zeroValue 2).run Tryz.prog u=.ok (.int .i64 0) u:=by
 kernel_rfl
theorem Cts.made(w:World):Cts (w.alloc (.map #[] 0)) w.heap.size []:=⟨_,World.ownsMap_made w _ _ _,Cnt.none⟩
theorem Cts.lt{w:World}{b:Nat}{ns:List Nm}(h:Cts w b ns):b<w.heap.size:=by
 obtain⟨D,h,_⟩:=h;exact h.lt
theorem Cts.kept{w w':World}{b:Nat}{ns:List Nm}{row:Option Nat}(h:Cts w b ns)(hg:w.grownBy w' row)(hne:some b≠row):Cts w' b ns:=by
 obtain⟨D,h,hc⟩:=h;exact⟨D,h.kept hg hne,hc⟩
theorem Cts.look{w:World}{b:Nat}{ns:List Nm}(h:Cts w b ns){x:Nm}(hx:nmW x):(Instr.lookup 142 (.map (some b)) (nmV x) false).run Tryz.prog w=.ok (.int .i64 (ns.count x)) w:=by
 obtain⟨D,h,hc⟩:=h;obtain⟨c,hr,hat,_⟩:=h.lookup_int lawNm Tryz.underlying142 Tryz.underlying2 (z8E w) (z3k hx);rw[hc.2 x hx]at hat;simp only[DataW.lit.injEq,Lit.int.injEq,true_and]at hat;rw[hr,hat]
theorem Cts.inc{w:World}{b:Nat}{ns:List Nm}(h:Cts w b ns){x:Nm}(hx:nmW x)(hl:ns.length<1000):
  ∃ (v0:Value) (st:Nat) (w1 w3:World),(Instr.mapEntry 142 (.map (some b)) (nmV x)).run Tryz.prog w=.ok (.tuple #[v0,.int .i64 st]) w1∧
   (Instr.lookup 142 (.map (some b)) (nmV x) false).run Tryz.prog w1=.ok (.int .i64 (ns.count x)) w1∧
   (Instr.entryStore 142 (.map (some b)) (.int .i64 st) (.int .i64 ((ns.count x:Int)+1))).run Tryz.prog w1=.ok () w3∧w.mapTurned w1 b∧w.mapTurned w3 b∧Cts w3 b (ns++[x]):=by
 obtain⟨D,h,hc⟩:=h;have G:ns.count x≤ns.length:=List.count_le_length;have w0:(Lit.int .i64 0).wf=true:=by decide
 have wc:(Lit.int .i64 ((ns.count x:Int)+1)).wf=true:=WalkArith.wf_i64 (by omega);obtain⟨v0,st,w1,D1,hr,r,s,q,C⟩:=z8D h q1c Tryz.underlying142 z8E (plainElem_int Tryz.underlying2 w0) (by unfold maxLen;omega) (z3k hx);obtain⟨w3,z,y,E⟩:=C w1 _ _ _ rfl (plainElem_int Tryz.underlying2 wc);obtain⟨c,A,d,_⟩:=s.lookup_int lawNm Tryz.underlying142 Tryz.underlying2 (z8E w1) (z3k hx);rw[q,hc.2 x hx]at d;simp only[DataW.lit.injEq,Lit.int.injEq,true_and]at d;refine⟨v0,st,w1,w3,hr,by rw[A,d],z,r,r.trans E,⟨_,?_,hc.put hx⟩⟩;rw[List.length_append];exact y
theorem Cts.below{w w':World}{b:Nat}{ns:List Nm}(h:Cts w b ns)(hb:Below w.heap.size w w'):Cts w' b ns:=by
 obtain⟨D,h,hc⟩:=h;have hlt:=h.lt;obtain⟨es,clock,h1,r⟩:=h;exact⟨D,⟨es,clock,(hb.block b hlt).trans h1,r⟩,hc⟩
theorem Cts.drew{w:World}{b:Nat}{ns:List Nm}(h:Cts w b ns):Cts w.drew b ns:=h
theorem z40{B:Nat}{w w':World}(h:Below B w w'):Below B w w'.drew:=⟨h.os,h.tape,h.output,h.size,h.block⟩
theorem z7b{w:World}{base e size n:Nat}{v:Value}{xs:List Value}(h:w.ownsRow base e size v n xs):w.drew.ownsRow base e size v n xs:=h
theorem z7c{w:World}{b:Nat}{t:TypeId}{cs:Array Value}(h:Blk w b t cs):Blk w.drew b t cs:=h
theorem z8F{w w':World}{M e size n:Nat}{v:Value}{xs:List Value}(h:w.ownsRow (M+1) e size v n xs)(ht:w.mapTurned w' M):w'.ownsRow (M+1) e size v n xs:=by
 refine h.kept ht.grown ?_
 cases hv:v.ownBlock with
 |none=>exact Or.inl rfl
 |some k=>
  have:=(h.lt k hv).1;exact Or.inr (fun e=>by simp at e;omega)
theorem z8G{w w':World}{b M:Nat}{t:TypeId}{cs:Array Value}(h:Blk w b t cs)(ht:w.mapTurned w' M):Blk w' b t cs:=by
 refine h.grown ht.grown (fun e=>?_);obtain⟨es,clock,es',clock',hb,_⟩:=ht;simp only[Option.some.injEq]at e;subst e;have h2:w.heap[b]?=some (.cells cs t):=h;rw[h2]at hb
 cases hb
theorem z58{B M:Nat}{w0 w w':World}(h:Below B w0 w)(ht:w.mapTurned w' M)(hM:B≤M):Below B w0 w':=by
 have hg:=ht.grown;obtain⟨es,clock,es',clock',hb,rfl⟩:=ht;have hl:M<w.heap.size:=(Array.getElem?_eq_some_iff.1 hb).1;refine⟨hg.os.trans h.os,hg.tape.trans h.tape,hg.output.trans h.output,Nat.le_trans h.size hg.size,fun k hk=>(hg.block k (by omega) (fun e=>?_)).trans (h.block k hk)⟩;simp only[Option.some.injEq]at e;omega
theorem q1d{w:World}{base base' e size n:Nat}{v:Value}{xs:List Value}(h:w.ownsRow base e size v n xs)(hb:base'≤base):w.ownsRow base' e size v n xs:=by
 refine⟨h.1,?_⟩;rcases h.2 with h2|⟨g,cap,cur,hv,hg,hh,r⟩
 ·exact Or.inl h2
 ·exact Or.inr ⟨g,cap,cur,hv,by omega,hh,r⟩
theorem nmX0(a b c d e f:Int)(w:World):(Instr.index 145 (.agg #[.int .i64 a,.int .i64 b,.int .i64 c,.int .i64 d,.int .i64 e,.int .i64 f]) (.int .i64 0)).run Tryz.prog w=.ok (.agg #[.int .i64 a,.int .i64 b,.int .i64 c]) w:=by kernel_rfl
theorem nmX1(a b c d e f:Int)(w:World):(Instr.index 145 (.agg #[.int .i64 a,.int .i64 b,.int .i64 c,.int .i64 d,.int .i64 e,.int .i64 f]) (.int .i64 1)).run Tryz.prog w=.ok (.agg #[.int .i64 d,.int .i64 e,.int .i64 f]) w:=by kernel_rfl
theorem z4y{P:Program}{a:Act}{w:World}{Q:Exit→Act→World→Prop}{c X:Code}(l:Nat)(J:Act→World→Prop)(μ:Act→World→Nat)(hf:findLabel c l=some (Code.skip.seq X))
  (first:(∀a w,J a w→X.wp P (Exit.jump l J Q) a w)→c.wp P (Exit.jump l J Q) a w)
  (pass:∀a w,J a w→X.wp P (Exit.jump l (fun a' w'=>J a' w'∧μ a' w'<μ a w) Q) a w):(Code.scope c).wp P Q a w:=by
 refine wp_scope_jumps l J μ hf (first fun a w h=>?_) (fun a w h=>wp_seq_k fun K hK=>wp_skip (hK _ _ (pass a w h)));refine wp_mono (pass a w h) (fun e a w he=>?_)
 cases e with
 |goto l'=>exact⟨he.1,he.2.1⟩
 |normal=>exact he
 |exit id=>exact he
 |ret=>exact he
 |panic ch=>exact he
 |outgrown=>exact he
theorem z7z{P:Program}{a0:Act}{w0:World}{Q:Exit→Act→World→Prop}{r1 r2 rest:Code}{l:Nat}{J:Act→World→Prop}(hrest:∀a w,J a w→rest.wp P Q a w)(h:∀R:Code,(∀a w,J a w→R.wp P Q a w)→(r1.seq (r2.seq R)).wp P Q a0 w0):(r1.seq (r2.seq ((Code.label l).seq rest))).wp P Q a0 w0:=
 h _ (fun a w hJ=>wp_seq_k fun K hK=>wp_label (hK _ _ (hrest a w hJ)))
def OeW(w:World)(ps:List TxnQ)(v v4:Value)(wr:World):Prop:=∃ (k:Nat) (rs qs:List TxnQ),k≤ps.length∧Hid (rs=ps.drop k)∧txnK.At w v rs∧z6E v∧Hid (qs.map TxnQ.e=onc [] ((ps.take k).map TxnQ.e))∧wr.ownsRow (w.heap.size+1) 44 4 v4 qs.length (txnK.row qs)∧Hid (∀q∈qs,q∈ps)∧Cts wr w.heap.size (nms (qs.map TxnQ.e))∧Below w.heap.size w wr
def OeJ(w:World)(ps:List TxnQ)(a':Act)(w':World):Prop:=∃ (v v4 u5 u6 u7 u8 u9 u10 u11 u12 u13 u14 u15 u16 u17 u18 u19 u20 u21 u22 u23 u24 u25 u26 u27 u28 u29 u30 u31 u32 u33 u34 u35 u36 u37 u38 u39 u40 u41 u42 u43 u44 u45 u46 u47 u48 u49 u50 u51 u52 u53 u54 u55 u56 u57 u58:Value),a'={tmps:=#[v,undef,.slice none 0 0,.map (some w.heap.size),v4,u5,u6,u7,u8,u9,u10,u11,u12,u13,u14,u15,u16,u17,u18,u19,u20,u21,u22,u23,u24,u25,u26,u27,u28,u29,u30,u31,u32,u33,u34,u35,u36,u37,u38,u39,u40,u41,u42,u43,u44,u45,u46,u47,u48,u49,u50,u51,u52,u53,u54,u55,u56,u57,u58],defers:=[]}∧OeW w ps v v4 w'
def OeM(a':Act)(_:World):Nat:=match a'.tmps.getD 0 undef with| .slice _ n _=>n|_=>0
theorem z59(v:Value)(ps:List TxnQ)(w:World)(h:txnK.At w v ps)(ao:z6E v)(hl:ps.length≤16)(hW:∀p∈ps,1≤p.i∧nmW (nmA (TxnQ.e p))∧nmW (nmB (TxnQ.e p))):
  Calls Tryz.prog 40 #[v] w fun e w'=>∃ (v':Value) (qs:List TxnQ),e=.returned v'∧qs.map TxnQ.e=onc [] (ps.map TxnQ.e)∧qs.length≤16∧w'.ownsRow w.heap.size 44 4 v' qs.length (txnK.row qs)∧(∀q∈qs,txnK.rd w q)∧Below w.heap.size w w':=by
 obtain⟨i0,a1,be,bf,bg⟩:=info_parts z1G;have a8:=@run_makeMap Tryz.prog;go_enter Tryz.func40,Tryz.ntmps40
 go_wp2
 refine z4y 0 (OeJ w ps) OeM rfl ?_ ?_
 ·intro aw;obtain⟨a,cap,rfl⟩:=h.shape;have au:=Cts.made w;have aY:Below w.heap.size w (w.alloc (.map #[] 0)):=by go_grown
  have bc:(w.alloc (.map #[] 0)).ownsRow (w.heap.size+1) 44 4 (.slice none 0 0) ([]:List TxnQ).length (txnK.row []):=World.ownsRow_nil _ _ _ _;refine z7z aw fun R hR=>?_
  go_wp2
  refine hR _ _ ?_;refine⟨_,_,_,_,_,_,_,_,_,_,_,_,_,_,_,_,_,_,_,_,_,_,_,_,_,_,_,_,_,_,_,_,_,_,_,_,_,_,_,_,_,_,_,_,_,_,_,_,_,_,_,_,_,_,_,_,rfl,0,ps,[],Nat.zero_le _,(rfl:_=_),h,ao,(rfl:_=_),bc,fun q hq=>by simp at hq,au,aY⟩
 ·clear a8;rintro a' w' ⟨v,v4,u5,u6,u7,u8,u9,bw,bx,bz,bA,bB,bC,bD,bE,bF,bG,bH,bI,bJ,bK,bL,bM,bN,bO,bP,bQ,bR,bS,bT,bU,bV,bW,bX,bY,bZ,b0,b1,b2,b3,b4,b5,b6,b7,b8,b9,ca,cb,cc,cd,ce,cf,cg,ch,ci,cj,rfl,k0,rs,bi,br,ah,hA,ao,az,am,aB,aG,aW⟩;obtain⟨a,cap,rfl⟩:=hA.shape;have X:Hid (rs.length=ps.length-k0):=show _=_ by rw[ah.out,List.length_drop]
  obtain⟨aK,bl⟩:rs.length≤cap∧cap≤maxLen:=ao;obtain⟨bu,bv,rfl⟩:=z0p am
  go_wp2
  go_loopw[0,4,15] (fun v0 v j wr=>∃ (i:Nat) (qs:List TxnQ),i≤rs.length∧v0=.slice a rs.length cap∧j=.int .i64 i∧Hid (qs.map TxnQ.e=onc [] ((ps.take (k0+i)).map TxnQ.e))∧wr.ownsRow (w.heap.size+1) 44 4 v qs.length (txnK.row qs)∧Hid (∀q∈qs,q∈ps)∧Cts wr w.heap.size (nms (qs.map TxnQ.e))∧Below w.heap.size w wr) (fun _ _ j _=>rs.length-(intOf j).toNat)
  case atStart=>exact⟨0,bi,Nat.zero_le _,rfl,rfl,az,am,aB,aG,aW⟩
  case round=>
   clear az am aB aG;obtain⟨i,qs,hi,rfl,rfl,HE,hO,HM,hC,hb⟩:=hrel;obtain⟨sa,sc,rfl⟩:=z0p hO;by_cases a7:i<rs.length
   ·have hk:k0+i<ps.length:=by have:=X.out;omega
    obtain⟨b,W,rfl,aZ,hc,aQ⟩:=hA.cell (by decide) i a7;have aP:rs[i]=ps[k0+i]:=by
     obtain rfl:rs=ps.drop k0:=ah.out;simp
    rw[aP]at hc aQ;obtain⟨h1,ax,ay⟩:=hW _ (List.getElem_mem hk);have HY:Hid (onc [] ((ps.take (k0+i+1)).map TxnQ.e)=if knw (qs.map TxnQ.e) (TxnQ.e ps[k0+i])then qs.map TxnQ.e else qs.map TxnQ.e++[TxnQ.e ps[k0+i]]):=show _=_ by
     rw[HE.out,List.take_succ_eq_append_getElem hk,List.map_append,z1r];rfl
    have I:∀j x,(txnK.cells ps[k0+i])[j]?=some x→w.cell? ⟨b,W+i*4+j,none⟩=some x:=hc;have c0:=z03 (I 0 (.int .i64 ps[k0+i].i) rfl) hb;have c1:=z03 (I 1 (.int .i64 ps[k0+i].s) rfl) hb;have c2:=z03 (I 2 (.int .i64 ps[k0+i].q) rfl) hb;have c3:=z03 (I 3 ps[k0+i].va rfl) hb;rw[Nat.add_zero]at c0;have bj:b<wr.heap.size:=Nat.lt_of_lt_of_le aZ hb.size;have aN:ps[k0+i]∈ps:=List.getElem_mem hk;clear hc I aP;generalize ps[k0+i]=p at*;obtain⟨pi,d,pq,bh,c⟩:=p;have hT:actK.At w bh c:=aQ;obtain⟨ba,bk,rfl⟩:=hT.shape;dsimp only at c0 c1 c2 c3 h1;obtain⟨z,D⟩:∃z,z=rs.drop (i+1):=⟨_,rfl⟩
    have aM:z.length=rs.length-(i+1):=by rw[D,List.length_drop]
    obtain⟨ra,rc,bt,aD,J⟩:∃ra rc,(∀u:World,(Instr.slice 27 (.slice (some ⟨b,W,none⟩) rs.length cap) (some (.int .i64 ((i:Int)+1))) none none).run Tryz.prog u=.ok (.slice ra z.length rc) u)∧txnK.At w (.slice ra z.length rc) z∧z6E (.slice ra z.length rc):=by
     have hd:=hA.dropS (i+1) (by omega) aK (cap-(i+1));rw[←D]at hd;refine⟨_,_,fun u=>?_,hd,⟨by omega,by omega⟩⟩;rw[run_slice_l u 27 (some ⟨b,W,none⟩) rs.length cap (by kernel_rfl) .i64 ((i:Int)+1) (by omega) (by omega),aM];rfl
    have aa:Hid (z=ps.drop (k0+(i+1))):=show _=_ by rw[D,ah.out,List.drop_drop]
    have Z:Hid (z.length<rs.length):=show _<_ by omega
    have HJ:Hid (knw (qs.map TxnQ.e) (TxnQ.e (⟨pi,d,pq,.slice ba c.length bk,c⟩:TxnQ))=true→qs.map TxnQ.e=onc [] ((ps.take (k0+(i+1))).map TxnQ.e)):=fun ap=>by
     have h9:=HY.out;rw[ap]at h9;rw[←Nat.add_assoc,h9];rfl
    clear D aM;obtain⟨BX,aF⟩:∃BX,BX=wr.heap.size:=⟨_,rfl⟩
    have aS:Hid ((nms (qs.map TxnQ.e)).length≤32):=show _≤_ by
     rw[z8C,HE.out];have:=z5m ((ps.take (k0+i)).map TxnQ.e) [];simp only[List.length_map,List.length_take,List.length_nil]at this;omega
    have V:Below wr.heap.size wr ((wr.alloc (.cells #[.int .i64 pi,.int .i64 d,.int .i64 pq,.slice ba c.length bk] 44)).alloc (.cells #[.int .i64 pi,.int .i64 0,.int .i64 0,.int .i64 0,.int .i64 d,.int .i64 pq] 145)):=by go_grown
    have X1:Blk ((wr.alloc (.cells #[.int .i64 pi,.int .i64 d,.int .i64 pq,.slice ba c.length bk] 44)).alloc (.cells #[.int .i64 pi,.int .i64 0,.int .i64 0,.int .i64 0,.int .i64 d,.int .i64 pq] 145)) wr.heap.size 44 #[.int .i64 pi,.int .i64 d,.int .i64 pq,.slice ba c.length bk]:=(Blk.new wr 44 #[.int .i64 pi,.int .i64 d,.int .i64 pq,.slice ba c.length bk]).below (by go_grown);have X2:Blk ((wr.alloc (.cells #[.int .i64 pi,.int .i64 d,.int .i64 pq,.slice ba c.length bk] 44)).alloc (.cells #[.int .i64 pi,.int .i64 0,.int .i64 0,.int .i64 0,.int .i64 d,.int .i64 pq] 145)) (wr.heap.size+1) 145 #[.int .i64 pi,.int .i64 0,.int .i64 0,.int .i64 0,.int .i64 d,.int .i64 pq]:=by
     have:=Blk.new (wr.alloc (.cells #[.int .i64 pi,.int .i64 d,.int .i64 pq,.slice ba c.length bk] 44)) 145 #[.int .i64 pi,.int .i64 0,.int .i64 0,.int .i64 0,.int .i64 d,.int .i64 pq];simpa using this
    have T:=z0n hO V;have M:Cts ((wr.alloc (.cells #[.int .i64 pi,.int .i64 d,.int .i64 pq,.slice ba c.length bk] 44)).alloc (.cells #[.int .i64 pi,.int .i64 0,.int .i64 0,.int .i64 0,.int .i64 d,.int .i64 pq] 145)) w.heap.size (nms (qs.map TxnQ.e)):=hC.below V;have y:=hb.trans (V.mono hb.size)
    go_wp2
    clear V c0 c1 c2 c3 hb hO hC;rw[←aF]at X1;generalize (wr.alloc (.cells #[.int .i64 pi,.int .i64 d,.int .i64 pq,.slice ba c.length bk] 44)).alloc (.cells #[.int .i64 pi,.int .i64 0,.int .i64 0,.int .i64 0,.int .i64 d,.int .i64 pq] 145)=Y at*;go_loopw[0,30] (fun v0 j wy=>∃m:Nat,m≤2∧v0=.slice (some ⟨b,W,none⟩) rs.length cap∧j=.int .i64 m∧Hid (1≤m→(nms (qs.map TxnQ.e)).count (pi,0,0)=0)∧Hid (2≤m→(nms (qs.map TxnQ.e)).count (0,d,pq)=0)∧Below Y.heap.size Y wy) (fun _ j _=>2-(intOf j).toNat)
    case atStart=>exact⟨0,Nat.zero_le _,rfl,rfl,fun h=>by omega,fun h=>by omega,Below.refl _ _⟩
    case round=>
     obtain⟨m,hm,rfl,rfl,HA,HB,r⟩:=hrel;have N:=M.below r;have aq:=fun o=>(N.kept (row:=none) (World.grownBy_alloc wr o none) (by simp)).look ax
     have ar:=fun o=>(N.kept (row:=none) (World.grownBy_alloc wr o none) (by simp)).look ay
     simp only[nmV,nmA,nmB,TxnQ.e]at aq ar;have bp:=nmX0 pi 0 0 0 d pq;have bq:=nmX1 pi 0 0 0 d pq;replace X2:=X2.below r;obtain rfl|rfl|rfl:m=0∨m=1∨m=2:=by omega
     ·by_cases hp:0<(nms (qs.map TxnQ.e)).count (pi,0,0)
      ·have af:Hid (knw (qs.map TxnQ.e) (TxnQ.e (⟨pi,d,pq,.slice ba c.length bk,c⟩:TxnQ))=true):=(z6G (acc:=qs.map TxnQ.e) (t:=TxnQ.e (⟨pi,d,pq,.slice ba c.length bk,c⟩:TxnQ)) (fun x hx=>by obtain⟨q,hq,rfl⟩:=List.mem_map.1 hx;exact(hW q (HM.out q hq)).1) h1).2 (Or.inl hp)
       go_wp2
       refine wp_goto ?_;refine⟨rfl,⟨_,_,_,_,_,_,_,_,_,_,_,_,_,_,_,_,_,_,_,_,_,_,_,_,_,_,_,_,_,_,_,_,_,_,_,_,_,_,_,_,_,_,_,_,_,_,_,_,_,_,_,_,_,_,_,_,rfl,k0+(i+1),z,qs,by omega,aa,aD,J,HJ.out af.out,z0n (z0n T r) (by go_grown),HM,(M.below r).below (by go_grown),y.trans ((r.alloc r.size _).mono y.size)⟩,?_⟩;exact Z.out
      ·have hz:(nms (qs.map TxnQ.e)).count (pi,0,0)=0:=by omega
       rw[hz]at aq
       go_wp2
       go_roundw
       case rel=>exact⟨1,by omega,rfl,by go_num,fun _=>hz,fun h=>by omega,r.alloc r.size _⟩
       case measure=>simp[intOf]
     ·have L:=HA.out (by omega);by_cases hp:0<(nms (qs.map TxnQ.e)).count (0,d,pq)
      ·have af:Hid (knw (qs.map TxnQ.e) (TxnQ.e (⟨pi,d,pq,.slice ba c.length bk,c⟩:TxnQ))=true):=(z6G (acc:=qs.map TxnQ.e) (t:=TxnQ.e (⟨pi,d,pq,.slice ba c.length bk,c⟩:TxnQ)) (fun x hx=>by obtain⟨q,hq,rfl⟩:=List.mem_map.1 hx;exact(hW q (HM.out q hq)).1) h1).2 (Or.inr hp)
       go_wp2
       refine wp_goto ?_;refine⟨rfl,⟨_,_,_,_,_,_,_,_,_,_,_,_,_,_,_,_,_,_,_,_,_,_,_,_,_,_,_,_,_,_,_,_,_,_,_,_,_,_,_,_,_,_,_,_,_,_,_,_,_,_,_,_,_,_,_,_,rfl,k0+(i+1),z,qs,by omega,aa,aD,J,HJ.out af.out,z0n (z0n T r) (by go_grown),HM,(M.below r).below (by go_grown),y.trans ((r.alloc r.size _).mono y.size)⟩,?_⟩;exact Z.out
      ·have hz:(nms (qs.map TxnQ.e)).count (0,d,pq)=0:=by omega
       rw[hz]at ar
       go_wp2
       go_roundw
       case rel=>exact⟨2,by omega,rfl,by go_num,fun _=>L,fun _=>hz,r.alloc r.size _⟩
       case measure=>simp[intOf]
     ·have L:=HA.out (by omega);have aE:=HB.out (by omega);obtain⟨x0,x1,x2,x3,x4,x5⟩:=X2.cel6;replace X1:=X1.below r;have aJ:=z0n T r;replace y:=y.trans (r.mono y.size)
      go_wp2
      clear x0 x1 x2 x3 x4 x5 X2 aq ar HA HB r M T;have a6:(nms (qs.map TxnQ.e)).length≤32:=aS.out;have aL:knw (qs.map TxnQ.e) (TxnQ.e (⟨pi,d,pq,.slice ba c.length bk,c⟩:TxnQ))=false:=by
       cases ap:knw (qs.map TxnQ.e) (TxnQ.e (⟨pi,d,pq,.slice ba c.length bk,c⟩:TxnQ))with
       |false=>rfl
       |true=>
        have h9:=(z6G (acc:=qs.map TxnQ.e) (t:=TxnQ.e (⟨pi,d,pq,.slice ba c.length bk,c⟩:TxnQ)) (fun x hx=>by obtain⟨q,hq,rfl⟩:=List.mem_map.1 hx;exact(hW q (HM.out q hq)).1) h1).1 ap;have bm:(nms (qs.map TxnQ.e)).count (nmA (TxnQ.e (⟨pi,d,pq,.slice ba c.length bk,c⟩:TxnQ)))=0:=L;have bn:(nms (qs.map TxnQ.e)).count (nmB (TxnQ.e (⟨pi,d,pq,.slice ba c.length bk,c⟩:TxnQ)))=0:=aE;omega
      have aR:Hid ((qs++[(⟨pi,d,pq,.slice ba c.length bk,c⟩:TxnQ)]).map TxnQ.e=onc [] ((ps.take (k0+(i+1))).map TxnQ.e)):=show _=_ by
       have h9:=HY.out;rw[aL]at h9;rw[←Nat.add_assoc,h9];simp
      have aT:Hid (∀q∈qs++[(⟨pi,d,pq,.slice ba c.length bk,c⟩:TxnQ)],q∈ps):=fun q hq=>by
       rcases List.mem_append.1 hq with hq|hq
       ·exact HM.out q hq
       ·rw[List.mem_singleton.1 hq];exact aN
      have aA:Hid (qs.length≤16):=show _≤_ by
       have h9:=a6;rw[z8C]at h9;simp at h9;omega
      have aU:Hid (nms ((qs++[(⟨pi,d,pq,.slice ba c.length bk,c⟩:TxnQ)]).map TxnQ.e)=nms (qs.map TxnQ.e)++[(pi,0,0),(0,d,pq)]):=show _=_ by
       rw[List.map_append];exact(z9u _ _).trans (by simp[nmA,nmB,TxnQ.e])
      clear aL HY;generalize bs:nms (qs.map TxnQ.e)=ns at*;go_loopw[43] (fun j wz=>∃m:Nat,m≤2∧j=.int .i64 m∧Cts wz w.heap.size (ns++[(pi,0,0),(0,d,pq)].take m)∧wz.ownsRow (w.heap.size+1) 44 4 (.slice sa qs.length sc) qs.length (txnK.row qs)∧Blk wz BX 44 #[.int .i64 pi,.int .i64 d,.int .i64 pq,.slice ba c.length bk]∧Below w.heap.size w wz) (fun j _=>2-(intOf j).toNat)
      case atStart=>exact⟨0,Nat.zero_le _,rfl,by simpa using N,aJ,X1,y⟩
      case round=>
       clear N aJ X1 y;obtain⟨m,hm,rfl,G,U,X1,y⟩:=hrel;obtain rfl|rfl|rfl:m=0∨m=1∨m=2:=by omega
       ·simp only[List.take_zero,List.append_nil]at G;have E:Cts (wr.alloc (.cells #[.int .i64 pi,.int .i64 0,.int .i64 0] 144)).drew w.heap.size ns:=(G.kept (row:=none) (World.grownBy_alloc wr (.cells #[.int .i64 pi,.int .i64 0,.int .i64 0] 144) none) (by simp)).drew;have e0:=E.look ax;obtain⟨v0,st,w1,w3,e1,e2,e3,t1,t3,aj⟩:=E.inc ax (by omega);have z1:((0:Nat):Int)+1=1:=rfl;simp only[nmV,nmA,TxnQ.e,L,z1]at e0 e1 e2 e3;have ag:Hid (w3.ownsRow (w.heap.size+1) 44 4 (.slice sa qs.length sc) qs.length (txnK.row qs)):=z8F (z7b (z0n U (by go_grown))) t3;have ai:Hid (Blk w3 BX 44 #[.int .i64 pi,.int .i64 d,.int .i64 pq,.slice ba c.length bk]):=z8G (z7c (X1.below (by go_grown))) t3;have ae:Hid (Below w.heap.size w w3):=z58 (z40 (y.alloc y.size _)) t3 (Nat.le_refl _);clear t1 t3
        go_wp2
        go_region
        go_wp2
        go_roundw
        case rel=>exact⟨1,by omega,by go_num,aj,ag.out,ai.out,ae.out⟩
        case measure=>simp[intOf]
       ·have bb:(ns++[(pi,0,0)]).count (0,d,pq)=0:=by
         rw[List.count_append,aE];have:[(pi,(0:Int),(0:Int))].count (0,d,pq)=0:=List.count_eq_zero.2 (by simp;omega);omega
        have aH:Cts wr w.heap.size (ns++[(pi,0,0)]):=G;have E:Cts (wr.alloc (.cells #[.int .i64 0,.int .i64 d,.int .i64 pq] 144)).drew w.heap.size (ns++[(pi,0,0)]):=(aH.kept (row:=none) (World.grownBy_alloc wr (.cells #[.int .i64 0,.int .i64 d,.int .i64 pq] 144) none) (by simp)).drew;have e0:=E.look ay;obtain⟨v0,st,w1,w3,e1,e2,e3,t1,t3,aj⟩:=E.inc ay (by simp;omega);have z1:((0:Nat):Int)+1=1:=rfl;have ak:Cts w3 w.heap.size (ns++[(pi,0,0),(0,d,pq)]):=by
         have e9:ns++[(pi,0,0)]++[(0,d,pq)]=ns++[(pi,0,0),(0,d,pq)]:=by simp
         rw[←e9];exact aj
        simp only[nmV,nmB,TxnQ.e,bb,z1]at e0 e1 e2 e3;have ag:Hid (w3.ownsRow (w.heap.size+1) 44 4 (.slice sa qs.length sc) qs.length (txnK.row qs)):=z8F (z7b (z0n U (by go_grown))) t3;have ai:Hid (Blk w3 BX 44 #[.int .i64 pi,.int .i64 d,.int .i64 pq,.slice ba c.length bk]):=z8G (z7c (X1.below (by go_grown))) t3;have ae:Hid (Below w.heap.size w w3):=z58 (z40 (y.alloc y.size _)) t3 (Nat.le_refl _);clear t1 t3
        go_wp2
        go_region
        go_wp2
        go_roundw
        case rel=>exact⟨2,by omega,by go_num,ak,ag.out,ai.out,ae.out⟩
        case measure=>simp[intOf]
       ·rw[aF]at X1;obtain⟨y0,y1,y2,y3⟩:=X1.cel4;have C:Below wr.heap.size wr (wr.alloc (.cells #[.int .i64 pi,.int .i64 d,.int .i64 pq,.slice ba c.length bk] 44)):=by go_grown
        have O:=z0n U C;have al:Cts (wr.alloc (.cells #[.int .i64 pi,.int .i64 d,.int .i64 pq,.slice ba c.length bk] 44)) w.heap.size (ns++[(pi,0,0),(0,d,pq)]):=Cts.below (w:=wr) G C;have an:=y.trans (C.mono y.size);have aC:Hid (qs.length≤16):=aA;clear U G y X1 C
        go_wp2_with (at_builtin;refine wpList_append_own_at _ rfl _ _ 27 rfl (w.heap.size+1) 44 i0 (.agg #[.int .i64 0,.int .i64 0,.int .i64 0,.slice none 0 0]) 4 48 Tryz.underlying27 a1 be bf bg rfl (by decide) _ qs.length (txnK.row qs) rfl O ⟨wr.heap.size,0,none⟩ 1 1 [.int .i64 pi,.int .i64 d,.int .i64 pq,.slice ba c.length bk] rfl rfl ?c1 ?c2 ?c3 ?c4 ?c5 ?_)
        all_goals try(case c1=>intro j u hj;match j,hj with|0,hj=>simp at hj;subst hj;simp[Addr.add]|1,hj=>simp at hj;subst hj;simp[Addr.add]|2,hj=>simp at hj;subst hj;simp[Addr.add]|3,hj=>simp at hj;subst hj;simp[Addr.add])
        all_goals try(case c2=>intro u hu;simp at hu;rcases hu with rfl|rfl|rfl|rfl<;>rfl)
        all_goals try(case c3=>have:=aC.out;unfold maxLen;omega)
        all_goals try(case c4=>have:=aC.out;omega)
        all_goals try(case c5=>have:=al.lt;omega)
        intro v' w5 ab A aO aV;have ad:txnK.row (qs++[(⟨pi,d,pq,.slice ba c.length bk,c⟩:TxnQ)])=txnK.row qs++[.int .i64 pi,.int .i64 d,.int .i64 pq,.slice ba c.length bk]:=by simp[Kind.row];rfl
        have av:w5.ownsRow (w.heap.size+1) 44 4 v' (qs++[(⟨pi,d,pq,.slice ba c.length bk,c⟩:TxnQ)]).length (txnK.row (qs++[(⟨pi,d,pq,.slice ba c.length bk,c⟩:TxnQ)])):=by rw[ad,List.length_append];exact ab
        have aX:Below w.heap.size w w5:=an.grown A an.size (fun j hj=>by have:=(O.lt j hj).1;omega);have ak:Cts w5 w.heap.size (nms ((qs++[(⟨pi,d,pq,.slice ba c.length bk,c⟩:TxnQ)]).map TxnQ.e)):=by
         rw[aU.out];exact al.kept A (fun e=>by have:=(O.lt _ e.symm).1;omega)
        clear ab A aO aV ad O al an
        go_wp2
        go_roundw
        case rel=>exact⟨i+1,qs++[(⟨pi,d,pq,.slice ba c.length bk,c⟩:TxnQ)],by omega,rfl,by go_num,aR,av,aT,ak,aX⟩
        case measure=>simp[intOf];omega
   ·have a2:i=rs.length:=by omega
    subst a2;have hE:=HE.out;rw[List.take_of_length_le (by have:=X.out;omega)]at hE;have hL:qs.length≤16:=by
     have e9:qs.length=(qs.map TxnQ.e).length:=by simp
     have:=z5m (ps.map TxnQ.e) [];rw[e9,hE];simp only[List.length_map,List.length_nil]at this;omega
    have hR:∀q∈qs,txnK.rd w q:=fun q hq=>by
     obtain⟨a9,c9,e9,bo,bd⟩:=h;exact bd q (HM.out q hq)
    have aI:=q1d hO (Nat.le_succ w.heap.size)
    go_wp2
    first|go_ret|(simp only[Exit.jump];go_ret)
    first|exact⟨_,qs,rfl,hE,hL,aI,hR,hb⟩|exact⟨_,rfl,qs,hE,hL,aI,hR,hb⟩
end
theorem q0s{w:World}{base e size n:Nat}{v:Value}{xs:List Value}(h:w.ownsRow base e size v n xs):z6E v:=by
 rcases h.2 with⟨rfl,_⟩|⟨g,c,cur,rfl,_,_,h1,h2,_⟩
 ·exact⟨Nat.le_refl _,by decide⟩
 ·exact⟨h1,h2⟩
theorem q1F{bs:List TxnD}(h:batF bs=0):∀t∈bs,t.F=0:=by
 unfold batF at h;split at h
 ·exact absurd h (by decide)
 ·split at h
  ·rename_i h1 h2
   exact z66 h2
  ·rename_i h1 h2
   exact absurd h h2
theorem q1G{x:InstE}(h:insF x=0):∀t∈x.batch,t.F=0:=by
 obtain⟨h0,_⟩:=z1p h;obtain⟨_,_,_,hb0,hb1⟩:=z05 h0
 cases hh:x.has with
 |false=>
  rw[hb0 hh];intro t ht;simp at ht
 |true=>exact q1F (hb1 hh)
theorem q1e{ds:List InstE}(h:∀x∈ds,insF x=0):∀t∈z2P ds,t.F=0:=by
 intro t ht;unfold z2P at ht;obtain⟨x,hx,ht⟩:=List.mem_flatMap.1 ht;split at ht
 ·exact q1G (h x hx) t ht
 ·simp at ht
theorem z2l(n:Int)(h1:-1000≤n)(h2:n≤1000):(Lit.int .i64 n).wf=true:=by
 have e1:IntKind.i64.min=-9223372036854775808:=by decide
 have e2:IntKind.i64.max=9223372036854775807:=by decide
 show(decide (IntKind.i64.min≤n) && decide (n≤IntKind.i64.max))=true;rw[e1,e2,Bool.and_eq_true,decide_eq_true_eq,decide_eq_true_eq];omega
theorem q1H{t:TxnD}(h:t.F=0):1≤t.id∧nmW (nmA t)∧nmW (nmB t):=by
 obtain⟨⟨h1,h2⟩,⟨h3,h4⟩,⟨h5,h6⟩,_⟩:=z4a h;exact⟨h1,⟨z2l t.id (by omega) (by omega),z2l 0 (by decide) (by decide),z2l 0 (by decide) (by decide)⟩,⟨z2l 0 (by decide) (by decide),z2l t.session (by omega) (by omega),z2l t.seq (by omega) (by omega)⟩⟩
theorem q1f{qs:List TxnQ}(h:∀t∈qs.map TxnQ.e,t.F=0):nmL TxnQ.n qs≤4*qs.length:=by
 induction qs with
 |nil=>simp[nmL]
 |cons q r ih=>
  have h1:(TxnQ.e q).F=0:=h _ (by simp);have h2:=(z4a h1).2.2.2.1.2;have h3:q.acts.length≤4:=h2;have:=ih (fun t ht=>h t (by simp only[List.map_cons,List.mem_cons];exact Or.inr ht));simp only[nmL,List.map_cons,List.sum_cons,List.length_cons,TxnQ.n]at this⊢;omega
theorem z8H{ds:List InstE}(h:∀x∈ds,insF x=0):(z2P ds).length≤4*ds.length:=by
 unfold z2P;induction ds with
 |nil=>simp
 |cons x r ih=>
  have h1:=h x (by simp);have:=ih (fun y hy=>h y (List.mem_cons_of_mem _ hy));simp only[List.flatMap_cons,List.length_append,List.length_cons];have h2:x.batch.length≤4:=by
   obtain⟨h0,_⟩:=z1p h1;obtain⟨_,_,_,hb0,hb1⟩:=z05 h0
   cases hh:x.has with
   |false=>rw[hb0 hh];simp
   |true=>
    have h3:=hb1 hh;unfold batF at h3;split at h3
    ·exact absurd h3 (by decide)
    ·omega
  split
  ·omega
  ·simp only[List.length_nil];omega
theorem z8I:(Tryz.prog.info? 29).map (·.size)=some 2:=by kernel_rfl
theorem q1g{ds:List InstE}(h:∀x∈ds,insF x=0)(m:Nat):∀t∈defL ds m,t.F=0:=by
 intro t ht;rcases z6C _ _ t ht with ht|ht
 ·simp at ht
 ·exact q1e (fun x hx=>h x (List.mem_of_mem_take hx)) t ht
theorem z0M(v:Value)(ps:List InstQ)(n:Int)(w:World)(hG:Rul w)(h:instK.At w v ps)(ak:z6E v)(hl:(ps.length+nmL InstQ.n ps)≤1048576):
  Calls Tryz.prog 8 #[v,.int .i64 n] w fun e w'=>∃ (v':Value) (qs:List TxnQ),e=.returned (.agg #[.int .i64 (dfC (ps.map InstQ.e) n),v'])∧qs.map TxnQ.e=dfT (ps.map InstQ.e) n∧txnK.Own w' v' qs∧(txnK.fp v' qs).Nodup∧(∀k∈txnK.fp v' qs,w.heap.size≤k)∧Below w.heap.size w w':=by
 have hB:Below w.heap.size w (w.alloc (.cells #[.int .i64 0,.slice none 0 0] 29)):=by go_grown
 have Rb:=Blk.new w 29 #[.int .i64 0,.slice none 0 0];have ad:=z0H v ps _ (hG.below hB) (h.below hB) hl;have HO:Hid (ordF (ps.map InstQ.e)=0→ps.length≤4∧∀q∈ps,insF (InstQ.e q)=0):=fun h0=>by
  have:=((z0P _).1 h0).1;rw[List.length_map]at this;exact⟨this.2,fun q hq=>z1m h0 _ (List.mem_map.2 ⟨q,hq,rfl⟩)⟩
 have HV:Hid (ordF (ps.map InstQ.e)=0→diV (ps.map InstQ.e)=(decN (ps.map InstQ.e):Int)):=fun h0=>if_pos h0
 have hw:=z5p (ps.map InstQ.e) n;have d:Hid _:=hw;clear hw;have ar:decN (ps.map InstQ.e)≤ps.length:=by simpa using z4t (ps.map InstQ.e)
 obtain⟨a,cap,rfl⟩:=h.shape;obtain⟨al,am⟩:ps.length≤cap∧cap≤maxLen:=ak;generalize dfC (ps.map InstQ.e) n=D at*;generalize dfT (ps.map InstQ.e) n=O at*;generalize ordF (ps.map InstQ.e)=C at*;generalize diV (ps.map InstQ.e)=V at*;generalize decN (ps.map InstQ.e)=M at*;go_enter Tryz.func8,Tryz.ntmps8
 go_wp2_with fail
 refine ad.mono ?_;rintro e w1 ⟨rfl,G⟩;replace hB:=hB.trans (G.mono hB.size);replace Rb:=Rb.below G;clear ad G;have J:Below w1.heap.size w1 (w1.alloc (.cells #[.int .i64 C,.int .i64 V] 38)):=by go_grown
 have Cb:=Blk.new w1 38 #[.int .i64 C,.int .i64 V];replace hB:=hB.trans (J.mono hB.size);have aw:w.heap.size<w1.heap.size:=Rb.lt;replace Rb:=Rb.below J;clear J;by_cases hC:C=0
 ·have hv:=HV.out hC;obtain⟨h4,z⟩:=HO.out hC;have ae:∀p∈ps,insF (InstQ.e p)=0:=z;subst hC;subst hv;clear HV HO;have c1:=Cb.cell 1 _ rfl;have c0:=Cb.cell 0 _ rfl;have af:=fun w=>z1B n 0 (M:Int) w
  go_wp2_with fail
  clear c0 c1;generalize w1.alloc (.cells #[.int .i64 0,.int .i64 M] 38)=X at*;refine(af X).mono ?_;rintro e w2 ⟨rfl,W⟩;replace W:=W.symm;subst W;by_cases c:0≤n∧n≤(M:Int)
  ·have N:inW n 0 (M:Int)=true:=by unfold inW;rw[decide_eq_true c.1,decide_eq_true c.2];rfl
   obtain⟨m,rfl⟩:∃m:Nat,n=(m:Int):=⟨n.toNat,by omega⟩
   have hm:m≤ps.length:=by omega
   have E0:Hid (D=0∧O=defL (ps.map InstQ.e) m):=by
    rcases d.out with⟨h0,_⟩|⟨_,h0,_⟩|⟨_,_,h0,h1⟩
    ·exact absurd rfl h0
    ·exact absurd c h0
    ·exact⟨h0,by simpa using h1⟩
   clear d;rw[N];have hT:=h.takeK m hm;have ag:=z6F (.slice a m cap) (ps.take m) X (hG.below hB) (hT.below hB) (fun p hp=>z p (List.mem_of_mem_take hp)) (by rw[List.length_take];omega) (by have:=z5M InstQ.n ps m;rw[List.length_take];omega);have au:(0:Int)≤(m:Int):=by omega
   have av:(m:Int)≤(cap:Int):=by omega
   have an:m≤cap:=by omega
   have Z:Hid (∀ t∈z2P ((ps.take m).map InstQ.e),t.F=0):=q1e (fun x hx=>by
    obtain⟨p,hp,rfl⟩:=List.mem_map.1 hx;exact z p (List.mem_of_mem_take hp))
   have Y:Hid (onc [] (z2P ((ps.take m).map InstQ.e))=defL (ps.map InstQ.e) m):=show _=_ by unfold defL;rw[List.map_take]
   clear af z ae hT;have aq:w.heap.size<X.heap.size:=Rb.lt
   go_wp2_with fail
   refine ag.mono ?_;rintro e w3 ⟨v3,q3,rfl,e3,l3,o3,ah,s⟩;replace Rb:=Rb.below s;have A:=hB.trans (s.mono hB.size);have F3:∀t∈q3.map TxnQ.e,t.F=0:=fun t ht=>Z.out t (by rw[←e3];exact ht)
   have aa:txnK.At w3 v3 q3:=Kind.at_of_row o3 (fun q hq=>txnK.rd_below (ah q hq) s);have U:=z59 v3 q3 w3 aa (q0s o3) l3 (fun p hp=>q1H (t:=TxnQ.e p) (F3 _ (List.mem_map.2 ⟨p,hp,rfl⟩)));rw[e3,Y.out]at U;obtain⟨a3,c3,rfl⟩:=z0p o3;clear ag o3 ah aa Z Y s hB
   go_wp2_with fail
   refine U.mono ?_;rintro e w4 ⟨v4,q4,rfl,e4,l4,o4,ai,y⟩;replace Rb:=Rb.below y;have E:=A.trans (y.mono A.size);have F4:∀t∈q4.map TxnQ.e,t.F=0:=fun t ht=>by
    rw[e4]at ht;rcases z6C _ _ t ht with ht|ht
    ·simp at ht
    ·exact F3 t (by rw[e3,List.map_take];exact ht)
   have ab:txnK.At w4 v4 q4:=Kind.at_of_row o4 (fun q hq=>txnK.rd_below (ai q hq) y);have L:=z1W v4 q4 w4 ab (fun p hp=>by
    have:=(z4a (F4 _ (List.mem_map.2 ⟨p,hp,rfl⟩))).2.2.2.1.1;have h9:1≤p.acts.length:=this;omega) (by have:=q1f F4;omega)
   rw[e4]at L;obtain⟨a4,c4,rfl⟩:=z0p o4;have ap:w.heap.size<w4.heap.size:=Rb.lt;clear U o4 ai ab y A F3 F4 e3 e4
   go_wp2_with fail
   refine L.mono ?_;rintro e w5 ⟨v5,q5,rfl,e5,o5,n5,g5,I⟩;replace Rb:=Rb.below I;have aj:=E.trans (I.mono E.size);obtain⟨a5,c5,rfl⟩:=o5.shape;have E5:Hid (q5.map TxnQ.e=O):=show _=_ by rw[E0.out.2];exact e5
   have ED:Hid (D=0):=E0.out.1;clear L I E e5 E0;have KF:=z0c aj (Nat.le_refl w.heap.size) #[.int .i64 0,.slice a5 q5.length c5];have O5:Hid _:=o5.out (z0f _ w.heap.size #[.int .i64 0,.slice a5 q5.length c5]) (fun k hk=>by have:=g5 k hk;simp only[List.mem_singleton];omega);have g6:∀k∈txnK.fp (.slice a5 q5.length c5) q5,w.heap.size≤k:=fun k hk=>by have:=g5 k hk;omega
   have Rr:=Rb.row #[.int .i64 0,.slice a5 q5.length c5]
   go_wp2_with (first|(refine z0d (by kernel_rfl) 29 _ _ rfl _ #[.int .i64 0,.slice a5 q5.length c5] rfl rfl 29 _ Rb z8I rfl (by simp[Value.oneCell']) ?_))
   obtain⟨y0,y1⟩:=Rr.cel2;refine bodyPost_ret (v:=.agg #[.int .i64 0,.slice a5 q5.length c5]) (by simp[results,Tryz.results8,go_sem,y0,y1]) rfl ?_;exact⟨_,q5,by rw[ED.out],E5.out,O5.out,n5,g6,KF⟩
  ·have N:inW n 0 (M:Int)=false:=by
    unfold inW;rw[Bool.and_eq_false_iff,decide_eq_false_iff_not,decide_eq_false_iff_not];omega
   have E0:Hid (D=3∧O=[]):=by
    rcases d.out with⟨h0,_⟩|⟨_,_,h0,h1⟩|⟨_,h0,_⟩
    ·exact absurd rfl h0
    ·exact⟨h0,h1⟩
    ·exact absurd h0 c
   clear d;rw[N];obtain⟨T,r⟩:=Kind.own_nil (K:=txnK) (X.setRow w.heap.size #[.int .i64 3,.slice none 0 0]);have KF:=z0c hB (Nat.le_refl w.heap.size) #[.int .i64 3,.slice none 0 0];have Rr:=Rb.row #[.int .i64 3,.slice none 0 0]
   go_wp2_with (first|(refine z0d (by kernel_rfl) 29 _ _ rfl _ #[.int .i64 3,.slice none 0 0] rfl rfl 29 _ Rb z8I rfl (by simp[Value.oneCell']) ?_))
   obtain⟨y0,y1⟩:=Rr.cel2;refine bodyPost_ret (v:=.agg #[.int .i64 3,.slice none 0 0]) (by simp[results,Tryz.results8,go_sem,y0,y1]) rfl ?_;exact⟨_,[],by rw[E0.out.1],by rw[E0.out.2];rfl,T,by rw[r];simp,by rw[r];simp,KF⟩
 ·have E0:Hid (D=C∧O=[]):=by
   rcases d.out with⟨_,h0,h1⟩|⟨h0,_⟩|⟨h0,_⟩
   ·exact⟨h0,h1⟩
   ·exact absurd h0 hC
   ·exact absurd h0 hC
  clear d HV HO;have ao:(C !=0)=true:=by simpa using hC
  obtain⟨c0,c1⟩:=Cb.cel2;obtain⟨T,r⟩:=Kind.own_nil (K:=txnK) ((w1.alloc (.cells #[.int .i64 C,.int .i64 V] 38)).setRow w.heap.size #[.int .i64 C,.slice none 0 0]);have KF:=z0c hB (Nat.le_refl w.heap.size) #[.int .i64 C,.slice none 0 0];have Rr:=Rb.row #[.int .i64 C,.slice none 0 0]
  go_wp2_with (first|(refine z0d (by kernel_rfl) 29 _ _ rfl _ #[.int .i64 C,.slice none 0 0] rfl rfl 29 _ Rb z8I rfl (by simp[Value.oneCell']) ?_))
  obtain⟨y0,y1⟩:=Rr.cel2;refine bodyPost_ret (v:=.agg #[.int .i64 C,.slice none 0 0]) (by simp[results,Tryz.results8,go_sem,y0,y1]) rfl ?_;exact⟨_,[],by rw[E0.out.1],by rw[E0.out.2];rfl,T,by rw[r];simp,by rw[r];simp,KF⟩
theorem z7A{ps:List InstQ}{n:Int}{qs:List TxnQ}(h:qs.map TxnQ.e=dfT (ps.map InstQ.e) n)(_:ps.length+nmL InstQ.n ps≤1048576):qs.length+nmL TxnQ.n qs≤1048576:=by
 rcases z5p (ps.map InstQ.e) n with⟨_,_,e⟩|⟨_,_,_,e⟩|⟨h0,h1,_,e⟩
 ·rw[e]at h;have:qs=[]:=List.map_eq_nil_iff.1 h;subst this;simp[nmL]
 ·rw[e]at h;have:qs=[]:=List.map_eq_nil_iff.1 h;subst this;simp[nmL]
 ·rw[e]at h;have hF:∀t∈qs.map TxnQ.e,t.F=0:=fun t ht=>q1g (z1m h0) _ t (by rw[←h];exact ht)
  have h4:=q1f hF;have h16:qs.length≤16:=by
   have e1:qs.length=(qs.map TxnQ.e).length:=by simp
   rw[e1,h];have:=z5m (z2P ((ps.map InstQ.e).take n.toNat)) [];have h5:=z8H (ds:=(ps.map InstQ.e).take n.toNat) (fun x hx=>z1m h0 x (List.mem_of_mem_take hx));have h6:=((z0P _).1 h0).1.2;rw[List.length_take]at h5;unfold defL;simp only[List.length_nil]at this;omega
  omega
theorem z2R(a:Option Addr)(n cap:Nat)(w:World)(hm:n≤9223372036854775807):
  Calls Tryz.prog 6 #[.slice a n cap] w fun e w'=>e=.returned (.bool (decide (1048576<(n:Int))))∧w'=w:=by
 go_enter Tryz.func6,Tryz.ntmps6
 go_wp2
 go_ret;exact⟨rfl,rfl⟩
theorem z8J(c v:Int)(w:World):(Instr.field 38 (.agg #[.int .i64 c,.int .i64 v]) 1).run Tryz.prog w=.ok (.int .i64 v) w:=by kernel_rfl
theorem q1P(v v':Value)(ps qs:List TxnQ){xs ys:List TxnD}(e1:ps.map TxnQ.e=xs)(e2:qs.map TxnQ.e=ys)(hp:preT xs ys=true)(w:World)(h:txnK.At w v ps)(h':txnK.Own w v' qs)(hl:ps.length+nmL TxnQ.n ps≤1048576)(hl':qs.length+nmL TxnQ.n qs≤1048576):
  Calls Tryz.prog 17 #[v,v'] w fun e w'=>e=.returned (.bool true)∧Below w.heap.size w w':=by
 have hq:=z17 v v' ps qs w h h' hl hl';rw[e1,e2,hp]at hq;exact hq
theorem q1h(v v':Value)(ps qs:List TxnQ){xs ys:List TxnD}(e1:ps.map TxnQ.e=xs)(e2:qs.map TxnQ.e=ys)(hp:sameTs xs ys=true)(w:World)(h:txnK.At w v ps)(h':txnK.At w v' qs)(hl:ps.length+nmL TxnQ.n ps≤1048576)(hl':qs.length+nmL TxnQ.n qs≤1048576):
  Calls Tryz.prog 22 #[v,v'] w fun e w'=>e=.returned (.bool true)∧Below w.heap.size w w':=by
 have hq:=z1n v v' (ps.map TxnQ.e) (qs.map TxnQ.e) w (z0o h) (z0o h') (by rw[List.length_map,z07];exact hl) (by rw[List.length_map,z07];exact hl');rw[e1,e2,hp]at hq;exact hq
structure DcI (w wr:World) (b g T:Nat) (v:Value) (ps:List InstQ) (q:InstQ):Prop where
 s:Src w.heap.size wr b T
 wb:w.heap.size<b
 bg:b<g
 o:instK.Own wr v ps
 nd:(instK.fp v ps).Nodup
 lo:∀k∈instK.fp v ps,b<k∧k≠g
 r:Blk wr w.heap.size 49 #[.bool false,.slice none 0 0,.slice none 0 0,.slice none 0 0]
 x:Blk wr g 49 #[.bool q.has,q.vb,q.vr,q.vd]
 oq:instK.own wr q
 nq:(instK.foot q).Nodup
 lq:∀k∈instK.foot q,b<k∧k≠g
 bel:Below w.heap.size w wr
theorem DcI.below{w wr wr':World}{b g T:Nat}{v:Value}{ps:List InstQ}{q:InstQ}(h:DcI w wr b g T v ps q)(hb:Below wr.heap.size wr wr'):DcI w wr' b g T v ps q:=
 ⟨h.s.below hb,h.wb,h.bg,h.o.below hb,h.nd,h.lo,h.r.below hb,h.x.below hb,instK.own_out (F:=[]) h.oq (Out.of_below hb) (fun _ _=>by simp),h.nq,h.lq,h.bel.trans (hb.mono h.bel.size)⟩
theorem DcI.grown{w wr wr':World}{b g T T':Nat}{v:Value}{ps:List InstQ}{q:InstQ}(h:DcI w wr b g T v ps q)(hg:wr.grownBy wr' (some b))(hs:Src w.heap.size wr' b T'):DcI w wr' b g T' v ps q:=by
 have hU:Out [b] wr wr':=Out.of_grown hg;have h1:=h.wb;have h2:=h.bg;exact⟨hs,h.wb,h.bg,h.o.out hU (fun k hk hk'=>by simp only[List.mem_singleton]at hk';have:=h.lo k hk;omega),h.nd,h.lo,h.r.outs hU (fun hk=>by simp only[List.mem_singleton]at hk;omega),h.x.outs hU (fun hk=>by simp only[List.mem_singleton]at hk;omega),instK.own_out h.oq hU (fun k hk hk'=>by simp only[List.mem_singleton]at hk';have:=h.lq k hk;omega),h.nq,h.lq,Out.keep h.bel hU h.bel.size (fun k hk=>by simp only[List.mem_singleton]at hk;omega)⟩
theorem DcI.store{w wr:World}{b g T:Nat}{v:Value}{ps:List InstQ}{q:InstQ}(h:DcI w wr b g T v ps q)(q':InstQ)(oq:instK.own wr q')(nq:(instK.foot q').Nodup)(lq:∀k∈instK.foot q',b<k∧k≠g):DcI w (wr.setRow g #[.bool q'.has,q'.vb,q'.vr,q'.vd]) b g T v ps q':=by
 have hU:=z0f wr g #[.bool q'.has,q'.vb,q'.vr,q'.vd];have h1:=h.wb;have h2:=h.bg;exact⟨h.s.out hU (fun hk=>by simp only[List.mem_singleton]at hk;omega) (fun k hk=>by simp only[List.mem_singleton]at hk;omega),h.wb,h.bg,h.o.out hU (fun k hk hk'=>by simp only[List.mem_singleton]at hk';have:=h.lo k hk;omega),h.nd,h.lo,h.r.outs hU (fun hk=>by simp only[List.mem_singleton]at hk;omega),h.x.row _,instK.own_out oq hU (fun k hk hk'=>by simp only[List.mem_singleton]at hk';have:=lq k hk;omega),nq,lq,Out.keep h.bel hU h.bel.size (fun k hk=>by simp only[List.mem_singleton]at hk;omega)⟩
end Go.Proofs.YtciofogeiohleaaGreatDoor

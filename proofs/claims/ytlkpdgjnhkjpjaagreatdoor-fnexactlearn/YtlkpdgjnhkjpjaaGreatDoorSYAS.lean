import Derived.Test.YtlkpdgjnhkjpjaaGreatDoorSYAR
import Derived.Maps.OwnSet
import Derived.WideKeyEntry
import Derived.ScopeJumps
import Derived.WalkMore
set_option linter.unusedVariables false
set_option linter.unusedSimpArgs false
set_option maxRecDepth 100000
set_option maxHeartbeats 8000000
namespace Go.Proofs.YtlkpdgjnhkjpjaaGreatDoor
open Go.RowKit Go.BigFrame
open TxnQ renaming e->Va
open InstQ renaming e->Vb
open Nat renaming le_refl->Vc,zero_le->Vd
open IntKind renaming i64->S
open Value renaming int->G,slice->E
open Go.Proofs.Tryz renaming prog->Sl
open Go.Proofs.Tryz
section
open Go.Maps Go.WideShapes Go.MapKept Go.ChangeMaps Go.ChangeShapes Go.WideElems
theorem q2y{H:Type}{P:Program}{w:World}{t k e:TypeId}{R:Value→Option (DataW H × List MemPlace)}{b n:Nat}{D:DataW H}(h:w.ownsMap P k R b n D)(L:Go.WideMaps.KeyLaw P k)
  (ht:P.underlying t=some (.map k e)) {z:Value} (hz:∀u:World,(zeroValue e).run P u=.ok z u) {zd:DataW H} {zp:List MemPlace} (aj:R z=some (zd,zp)) (hn:n<maxLen)
  {key:Value} {kl:Lit} (x:keyOf P k key=some kl):
  ∃ (v0:Value) (st:Nat) (w1:World) (D1:DataW H),(Instr.mapEntry t (.map (some b)) key).run P w=.ok (.tuple #[v0,goInt st]) w1∧w.mapTurned w1 b∧
   w1.ownsMap P k R b (n+1) D1∧D1.atKey kl zd=D.atKey kl zd∧
   ∀ (w2:World) (M:Value) (d:DataW H) (ps:List MemPlace),w2.heap[b]?=w1.heap[b]?→R M=some (d,ps)→
    ∃w3,(Instr.entryStore t (.map (some b)) (goInt st) M).run P w2=.ok () w3∧w3.ownsMap P k R b (n+1) (D.put kl d)∧w2.mapTurned w3 b:=by
 have K:Keyed P k:=Keyed.of_law L;have h0:=h;obtain⟨es,c,hb,F,hs,hD⟩:=h;obtain⟨v0,st,J,A,hr,hv,ah⟩:=entry_then_store L ht hz hb F x;have U:(setBlock w b (.map J A)).heap[b]?=some (.map J A):=heap_setBlock_same hb _;have W:∃D1,(setBlock w b (.map J A)).ownsMap P k R b (n+1) D1∧D1.atKey kl zd=D.atKey kl zd:=by
  rcases K.find w x es.toList F.keys with⟨h1,h2⟩|⟨j,e0,h1,h2,h3⟩
  ·obtain⟨w',hrun,I,_⟩:=h0.store K ht hn x aj;have e1:(Instr.mapEntry t (.map (some b)) key).run P w=.ok (.tuple #[z,goInt c]) (setBlock w b (.map (es.push ⟨key,z,c⟩) (c+1))):=by
    simp[Instr.mapEntry,run_underlying ht,MapKept.run_getObj_map hb,K.check w false x,h1,hz,MapKept.run_setObj_map _ hb,Result.andThen,setBlock]
   have e2:(Instr.mapUpdate t (.map (some b)) key z).run P w=.ok () (setBlock w b (.map (es.push ⟨key,z,c⟩) (c+1))):=by
    simp[Instr.mapUpdate,run_underlying ht,MapKept.run_getObj_map hb,K.check w false x,h1,MapKept.run_setObj_map _ hb,Result.andThen,setBlock]
   rw[e1]at hr;rw[e2]at hrun;simp only[Result.ok.injEq,true_and]at hrun hr;rw[←hr.2,hrun];refine⟨_,I,?_⟩;rw[atKey_put_same h0.isMap (K.key x)];have ai:(zeroValue e).run P w=.ok z w:=hz w;rcases fit_look false K ht ai hb F x with⟨_,_,Z⟩|⟨e0,y,ad,ab,_⟩
   ·rw[hD,Z zd]
   ·exact absurd ab (h2 e0 ad)
  ·have hj:es[j]?=some e0:=by simpa using h2
   have ag:es.modify j (fun e=>{e with key:=key})=es:=by
    apply Array.ext';rw[Array.toList_modify,modify_eq_set _ _ _ _ h2];have:({e0 with key:=key}:MapEntry)=e0:=by rw[←h3]
    rw[this];exact set_self _ _ _ h2
   have e1:(Instr.mapEntry t (.map (some b)) key).run P w=.ok (.tuple #[e0.val,goInt e0.born]) (setBlock w b (.map es c)):=by
    simp[Instr.mapEntry,run_underlying ht,MapKept.run_getObj_map hb,K.check w false x,h1,hj,h3,L.stays w x,ag,MapKept.run_setObj_map _ hb,Result.andThen,setBlock]
   rw[e1]at hr;simp only[Result.ok.injEq]at hr;rw[←hr.2];exact⟨D,⟨es,c,heap_setBlock_same hb _,F,by omega,hD⟩,rfl⟩
 obtain⟨D1,T,V⟩:=W;refine⟨v0,st,_,D1,hr,⟨es,c,J,A,hb,rfl⟩,T,V,fun w2 M d ps h2 X=>?_⟩;have O:=h2.trans U;obtain⟨N,C,ae,af⟩:=ah w2 M O;obtain⟨w',hrun,I,_⟩:=h0.store K ht hn x X;rw[af]at hrun;simp only[Result.ok.injEq,true_and]at hrun;refine⟨_,ae,?_,⟨J,A,N,C,O,rfl⟩⟩;rw[←hrun]at I;obtain⟨Y,cx,aa,rest⟩:=I;have e3:(setBlock w b (.map N C)).heap[b]?=(setBlock w2 b (.map N C)).heap[b]?:=by
  rw[heap_setBlock_same hb,heap_setBlock_same O]
 exact⟨Y,cx,e3▸aa,rest⟩
end
section
open Go.Maps
def Cts(w:World)(b:Nat)(ns:List Nm):Prop:=∃D:DataW Unit,w.ownsMap Sl 186 (plainElem Sl 2) b ns.length D∧Cnt D ns
theorem q6s:Go.WideMaps.KeyLaw Sl 186:=deep_law_laid q6o (m:=2) (by omega) q6p (by kernel_rfl) q4w
theorem q2z(u:World):(zeroValue 2).run Sl u=.ok (G S 0) u:=by
 kernel_rfl
theorem Cts.made(w:World):Cts (w.alloc (.map #[] 0)) w.heap.size []:=⟨_,World.ownsMap_made w _ _ _,Cnt.none⟩
theorem Cts.lt{w:World}{b:Nat}{ns:List Nm}(h:Cts w b ns):b<w.heap.size:=by
 obtain⟨D,h,_⟩:=h;exact h.lt
theorem Cts.kept{w w':World}{b:Nat}{ns:List Nm}{row:Option Nat}(h:Cts w b ns)(hg:w.grownBy w' row)(hne:some b≠row):Cts w' b ns:=by
 obtain⟨D,h,hc⟩:=h;exact⟨D,h.kept hg hne,hc⟩
theorem Cts.look{w:World}{b:Nat}{ns:List Nm}(h:Cts w b ns){x:Nm}(hx:nmW x):(Instr.lookup 184 (.map (some b)) (nmV x) false).run Sl w=.ok (G S (ns.count x)) w:=by
 obtain⟨D,h,hc⟩:=h;obtain⟨c,hr,hat,_⟩:=h.lookup_int lawNm Tryz.underlying184 Tryz.underlying2 (q2z w) (z4y hx);rw[hc.2 x hx]at hat;simp only[DataW.lit.injEq,Lit.int.injEq,true_and]at hat;rw[hr,hat]
theorem Cts.inc{w:World}{b:Nat}{ns:List Nm}(h:Cts w b ns){x:Nm}(hx:nmW x)(hl:ns.length<1000):
  ∃ (v0:Value) (st:Nat) (w1 w3:World),(Instr.mapEntry 184 (.map (some b)) (nmV x)).run Sl w=.ok (.tuple #[v0,G S st]) w1∧
   (Instr.lookup 184 (.map (some b)) (nmV x) false).run Sl w1=.ok (G S (ns.count x)) w1∧
   (Instr.entryStore 184 (.map (some b)) (G S st) (G S ((ns.count x:Int)+1))).run Sl w1=.ok () w3∧w.mapTurned w1 b∧w.mapTurned w3 b∧Cts w3 b (ns++[x]):=by
 obtain⟨D,h,hc⟩:=h;have N:ns.count x≤ns.length:=List.count_le_length;have w0:(Lit.int .i64 0).wf=true:=by decide
 have wc:(Lit.int .i64 ((ns.count x:Int)+1)).wf=true:=WalkArith.wf_i64 (by omega);obtain⟨v0,st,w1,D1,hr,z,A,y,L⟩:=q2y h q6s Tryz.underlying184 q2z (plainElem_int Tryz.underlying2 w0) (by unfold maxLen;omega) (z4y hx);obtain⟨w3,I,C,M⟩:=L w1 _ _ _ rfl (plainElem_int Tryz.underlying2 wc);obtain⟨c,J,d,_⟩:=A.lookup_int lawNm Tryz.underlying184 Tryz.underlying2 (q2z w1) (z4y hx);rw[y,hc.2 x hx]at d;simp only[DataW.lit.injEq,Lit.int.injEq,true_and]at d;refine⟨v0,st,w1,w3,hr,by rw[J,d],I,z,z.trans M,⟨_,?_,hc.put hx⟩⟩;rw[List.length_append];exact C
theorem Cts.below{w w':World}{b:Nat}{ns:List Nm}(h:Cts w b ns)(hb:Below w.heap.size w w'):Cts w' b ns:=by
 obtain⟨D,h,hc⟩:=h;have hlt:=h.lt;obtain⟨es,clock,h1,r⟩:=h;exact⟨D,⟨es,clock,(hb.block b hlt).trans h1,r⟩,hc⟩
theorem Cts.drew{w:World}{b:Nat}{ns:List Nm}(h:Cts w b ns):Cts w.drew b ns:=h
theorem z6R{B:Nat}{w w':World}(h:Below B w w'):Below B w w'.drew:=⟨h.os,h.tape,h.output,h.size,h.block⟩
theorem q0j{w:World}{base e size n:Nat}{v:Value}{xs:List Value}(h:w.ownsRow base e size v n xs):w.drew.ownsRow base e size v n xs:=h
theorem q0k{w:World}{b:Nat}{t:TypeId}{cs:Array Value}(h:Blk w b t cs):Blk w.drew b t cs:=h
theorem q2A{w w':World}{M e size n:Nat}{v:Value}{xs:List Value}(h:w.ownsRow (M+1) e size v n xs)(ht:w.mapTurned w' M):w'.ownsRow (M+1) e size v n xs:=by
 refine h.kept ht.grown ?_
 cases hv:v.ownBlock with
 |none=>exact Or.inl rfl
 |some k=>
  have:=(h.lt k hv).1;exact Or.inr (fun e=>by simp at e;omega)
theorem q2B{w w':World}{b M:Nat}{t:TypeId}{cs:Array Value}(h:Blk w b t cs)(ht:w.mapTurned w' M):Blk w' b t cs:=by
 refine h.grown ht.grown (fun e=>?_);obtain⟨es,clock,es',clock',hb,_⟩:=ht;simp only[Option.some.injEq]at e;subst e;have h2:w.heap[b]?=some (.cells cs t):=h;rw[h2]at hb
 cases hb
theorem z8K{B M:Nat}{w0 w w':World}(h:Below B w0 w)(ht:w.mapTurned w' M)(hM:B≤M):Below B w0 w':=by
 have hg:=ht.grown;obtain⟨es,clock,es',clock',hb,rfl⟩:=ht;have hl:M<w.heap.size:=(Array.getElem?_eq_some_iff.1 hb).1;refine⟨hg.os.trans h.os,hg.tape.trans h.tape,hg.output.trans h.output,Nat.le_trans h.size hg.size,fun k hk=>(hg.block k (by omega) (fun e=>?_)).trans (h.block k hk)⟩;simp only[Option.some.injEq]at e;omega
theorem q6t{w:World}{base base' e size n:Nat}{v:Value}{xs:List Value}(h:w.ownsRow base e size v n xs)(hb:base'≤base):w.ownsRow base' e size v n xs:=by
 refine⟨h.1,?_⟩;rcases h.2 with h2|⟨g,cap,cur,hv,hg,hh,r⟩
 ·exact Or.inl h2
 ·exact Or.inr ⟨g,cap,cur,hv,by omega,hh,r⟩
theorem nmX0(a b c d e f:Int)(w:World):(Instr.index 187 (.agg #[G S a,G S b,G S c,G S d,G S e,G S f]) (G S 0)).run Sl w=.ok (.agg #[G S a,G S b,G S c]) w:=by kernel_rfl
theorem nmX1(a b c d e f:Int)(w:World):(Instr.index 187 (.agg #[G S a,G S b,G S c,G S d,G S e,G S f]) (G S 1)).run Sl w=.ok (.agg #[G S d,G S e,G S f]) w:=by kernel_rfl
theorem z5S{P:Program}{a:Act}{w:World}{Q:Exit→Act→World→Prop}{c X:Code}(l:Nat)(J:Act→World→Prop)(μ:Act→World→Nat)(hf:findLabel c l=some (Code.skip.seq X))
  (first:(∀a w,J a w→X.wp P (Exit.jump l J Q) a w)→c.wp P (Exit.jump l J Q) a w)
  (pass:∀a w,J a w→X.wp P (Exit.jump l (fun a' w'=>J a' w'∧μ a' w'<μ a w) Q) a w):(Code.scope c).wp P Q a w:=by
 refine wp_scope_jumps l J μ hf (first fun a w h=>?_) (fun a w h=>wp_seq_k fun K hK=>wp_skip (hK _ _ (pass a w h)));refine wp_mono (pass a w h) (fun e a w he=>?_)
 cases e with
 |goto l'=>exact⟨he.1,he.2.1⟩
 |normal=>exact he
 |exit id=>exact he
 |ret=>exact he
 |panic ch=>exact he
 |outgrown=>exact he
theorem q1i{P:Program}{a0:Act}{w0:World}{Q:Exit→Act→World→Prop}{r1 r2 rest:Code}{l:Nat}{J:Act→World→Prop}(hrest:∀a w,J a w→rest.wp P Q a w)(h:∀R:Code,(∀a w,J a w→R.wp P Q a w)→(r1.seq (r2.seq R)).wp P Q a0 w0):(r1.seq (r2.seq ((Code.label l).seq rest))).wp P Q a0 w0:=
 h _ (fun a w hJ=>wp_seq_k fun K hK=>wp_label (hK _ _ (hrest a w hJ)))
def OeW(w:World)(ps:List TxnQ)(v v4:Value)(wr:World):Prop:=∃ (k:Nat) (rs qs:List TxnQ),k≤ps.length∧Hid (rs=ps.drop k)∧txnK.At w v rs∧z2F v∧Hid (qs.map Va=onc [] ((ps.take k).map Va))∧wr.ownsRow (w.heap.size+1) 39 4 v4 qs.length (txnK.row qs)∧Hid (∀q∈qs,q∈ps)∧Cts wr w.heap.size (nms (qs.map Va))∧Below w.heap.size w wr
def OeJ(w:World)(ps:List TxnQ)(a':Act)(w':World):Prop:=∃ (v v4 u5 u6 u7 u8 u9 u10 u11 u12 u13 u14 u15 u16 u17 u18 u19 u20 u21 u22 u23 u24 u25 u26 u27 u28 u29 u30 u31 u32 u33 u34 u35 u36 u37 u38 u39 u40 u41 u42 u43 u44 u45 u46 u47 u48 u49 u50 u51 u52 u53 u54 u55 u56 u57 u58:Value),a'={tmps:=#[v,undef,E none 0 0,.map (some w.heap.size),v4,u5,u6,u7,u8,u9,u10,u11,u12,u13,u14,u15,u16,u17,u18,u19,u20,u21,u22,u23,u24,u25,u26,u27,u28,u29,u30,u31,u32,u33,u34,u35,u36,u37,u38,u39,u40,u41,u42,u43,u44,u45,u46,u47,u48,u49,u50,u51,u52,u53,u54,u55,u56,u57,u58],defers:=[]}∧OeW w ps v v4 w'
def OeM(a':Act)(_:World):Nat:=match a'.tmps.getD 0 undef with| E _ n _=>n|_=>0
theorem z8L(v:Value)(ps:List TxnQ)(w:World)(h:txnK.At w v ps)(au:z2F v)(hl:ps.length≤16)(hW:∀p∈ps,1≤p.i∧nmW (nmA (Va p))∧nmW (nmB (Va p))):
  Calls Sl 74 #[v] w fun e w'=>∃ (v':Value) (qs:List TxnQ),e=.returned v'∧qs.map Va=onc [] (ps.map Va)∧qs.length≤16∧w'.ownsRow w.heap.size 39 4 v' qs.length (txnK.row qs)∧(∀q∈qs,txnK.rd w q)∧Below w.heap.size w w':=by
 obtain⟨i0,a8,bi,bj,bl⟩:=info_parts z1e;have be:=@run_makeMap Sl;go_enter func74,ntmps74
 go_wp2
 refine z5S 0 (OeJ w ps) OeM rfl ?_ ?_
 ·intro aA;obtain⟨a,cap,rfl⟩:=h.shape;have ay:=Cts.made w;have a6:Below w.heap.size w (w.alloc (.map #[] 0)):=by go_grown
  have bg:(w.alloc (.map #[] 0)).ownsRow (w.heap.size+1) 39 4 (E none 0 0) ([]:List TxnQ).length (txnK.row []):=World.ownsRow_nil _ _ _ _;refine q1i aA fun R hR=>?_
  go_wp2
  refine hR _ _ ?_;refine⟨_,_,_,_,_,_,_,_,_,_,_,_,_,_,_,_,_,_,_,_,_,_,_,_,_,_,_,_,_,_,_,_,_,_,_,_,_,_,_,_,_,_,_,_,_,_,_,_,_,_,_,_,_,_,_,_,rfl,0,ps,[],Vd _,(rfl:_=_),h,au,(rfl:_=_),bg,fun q hq=>by simp at hq,ay,a6⟩
 ·clear be;rintro a' w' ⟨v,v4,u5,u6,u7,u8,u9,bB,bC,bD,bE,bF,bG,bH,bI,bJ,bK,bL,bM,bN,bO,bP,bQ,bR,bS,bT,bU,bV,bW,bX,bY,bZ,b0,b1,b2,b3,b4,b5,b6,b7,b8,b9,ca,cb,cc,cd,ce,cf,cg,ch,ci,cj,ck,cl,cm,cn,rfl,k0,rs,bn,bv,al,hA,au,aD,aq,aF,aK,a1⟩;obtain⟨a,cap,rfl⟩:=hA.shape;have ad:Hid (rs.length=ps.length-k0):=show _=_ by rw[al.out,List.length_drop]
  obtain⟨aO,bp⟩:rs.length≤cap∧cap≤maxLen:=au;obtain⟨bz,bA,rfl⟩:=z0f aq
  go_wp2
  go_loopw[0,4,15] (fun v0 v j wr=>∃ (i:Nat) (qs:List TxnQ),i≤rs.length∧v0=E a rs.length cap∧j=G S i∧Hid (qs.map Va=onc [] ((ps.take (k0+i)).map Va))∧wr.ownsRow (w.heap.size+1) 39 4 v qs.length (txnK.row qs)∧Hid (∀q∈qs,q∈ps)∧Cts wr w.heap.size (nms (qs.map Va))∧Below w.heap.size w wr) (fun _ _ j _=>rs.length-(intOf j).toNat)
  case atStart=>exact⟨0,bn,Vd _,rfl,rfl,aD,aq,aF,aK,a1⟩
  case round=>
   clear aD aq aF aK;obtain⟨i,qs,hi,rfl,rfl,HE,hO,HM,hC,hb⟩:=hrel;obtain⟨sa,sc,rfl⟩:=z0f hO;by_cases bd:i<rs.length
   ·have hk:k0+i<ps.length:=by have:=ad.out;omega
    obtain⟨b,ab,rfl,a7,hc,aU⟩:=hA.cell (by decide) i bd;have aT:rs[i]=ps[k0+i]:=by
     obtain rfl:rs=ps.drop k0:=al.out;simp
    rw[aT]at hc aU;obtain⟨h1,aB,aC⟩:=hW _ (List.getElem_mem hk);have HY:Hid (onc [] ((ps.take (k0+i+1)).map Va)=if knw (qs.map Va) (Va ps[k0+i])then qs.map Va else qs.map Va++[Va ps[k0+i]]):=show _=_ by
     rw[HE.out,List.take_succ_eq_append_getElem hk,List.map_append,z1R];rfl
    have N:∀j x,(txnK.cells ps[k0+i])[j]?=some x→w.cell? ⟨b,ab+i*4+j,none⟩=some x:=hc;have c0:=z8J (N 0 (G S ps[k0+i].i) rfl) hb;have c1:=z8J (N 1 (G S ps[k0+i].s) rfl) hb;have c2:=z8J (N 2 (G S ps[k0+i].q) rfl) hb;have c3:=z8J (N 3 ps[k0+i].va rfl) hb;rw[Nat.add_zero]at c0;have bo:b<wr.heap.size:=Nat.lt_of_lt_of_le a7 hb.size;have aR:ps[k0+i]∈ps:=List.getElem_mem hk;clear hc N aT;generalize ps[k0+i]=p at*;obtain⟨pi,d,pq,bm,c⟩:=p;have hT:actK.At w bm c:=aU;obtain⟨ba,bk,rfl⟩:=hT.shape;dsimp only at c0 c1 c2 c3 h1;obtain⟨A,J⟩:∃A,A=rs.drop (i+1):=⟨_,rfl⟩
    have aQ:A.length=rs.length-(i+1):=by rw[J,List.length_drop]
    obtain⟨ra,rc,bx,aH,O⟩:∃ra rc,(∀u:World,(Instr.slice 25 (E (some ⟨b,ab,none⟩) rs.length cap) (some (G S ((i:Int)+1))) none none).run Sl u=.ok (E ra A.length rc) u)∧txnK.At w (E ra A.length rc) A∧z2F (E ra A.length rc):=by
     have hd:=hA.dropS (i+1) (by omega) aO (cap-(i+1));rw[←J]at hd;refine⟨_,_,fun u=>?_,hd,⟨by omega,by omega⟩⟩;rw[run_slice_l u 25 (some ⟨b,ab,none⟩) rs.length cap (by kernel_rfl) .i64 ((i:Int)+1) (by omega) (by omega),aQ];rfl
    have af:Hid (A=ps.drop (k0+(i+1))):=show _=_ by rw[J,al.out,List.drop_drop]
    have ae:Hid (A.length<rs.length):=show _<_ by omega
    have HJ:Hid (knw (qs.map Va) (Va (⟨pi,d,pq,E ba c.length bk,c⟩:TxnQ))=true→qs.map Va=onc [] ((ps.take (k0+(i+1))).map Va)):=fun av=>by
     have h9:=HY.out;rw[av]at h9;rw[←Nat.add_assoc,h9];rfl
    clear J aQ;obtain⟨BX,aJ⟩:∃BX,BX=wr.heap.size:=⟨_,rfl⟩
    have aW:Hid ((nms (qs.map Va)).length≤32):=show _≤_ by
     rw[q2x,HE.out];have:=z7m ((ps.take (k0+i)).map Va) [];simp only[List.length_map,List.length_take,List.length_nil]at this;omega
    have aa:Below wr.heap.size wr ((wr.alloc (.cells #[G S pi,G S d,G S pq,E ba c.length bk] 39)).alloc (.cells #[G S pi,G S 0,G S 0,G S 0,G S d,G S pq] 187)):=by go_grown
    have X1:Blk ((wr.alloc (.cells #[G S pi,G S d,G S pq,E ba c.length bk] 39)).alloc (.cells #[G S pi,G S 0,G S 0,G S 0,G S d,G S pq] 187)) wr.heap.size 39 #[G S pi,G S d,G S pq,E ba c.length bk]:=(Blk.new wr 39 #[G S pi,G S d,G S pq,E ba c.length bk]).below (by go_grown);have X2:Blk ((wr.alloc (.cells #[G S pi,G S d,G S pq,E ba c.length bk] 39)).alloc (.cells #[G S pi,G S 0,G S 0,G S 0,G S d,G S pq] 187)) (wr.heap.size+1) 187 #[G S pi,G S 0,G S 0,G S 0,G S d,G S pq]:=by
     have:=Blk.new (wr.alloc (.cells #[G S pi,G S d,G S pq,E ba c.length bk] 39)) 187 #[G S pi,G S 0,G S 0,G S 0,G S d,G S pq];simpa using this
    have X:=z0a hO aa;have U:Cts ((wr.alloc (.cells #[G S pi,G S d,G S pq,E ba c.length bk] 39)).alloc (.cells #[G S pi,G S 0,G S 0,G S 0,G S d,G S pq] 187)) w.heap.size (nms (qs.map Va)):=hC.below aa;have z:=hb.trans (aa.mono hb.size)
    go_wp2
    clear aa c0 c1 c2 c3 hb hO hC;rw[←aJ]at X1;generalize (wr.alloc (.cells #[G S pi,G S d,G S pq,E ba c.length bk] 39)).alloc (.cells #[G S pi,G S 0,G S 0,G S 0,G S d,G S pq] 187)=Y at*;go_loopw[0,30] (fun v0 j wy=>∃m:Nat,m≤2∧v0=E (some ⟨b,ab,none⟩) rs.length cap∧j=G S m∧Hid (1≤m→(nms (qs.map Va)).count (pi,0,0)=0)∧Hid (2≤m→(nms (qs.map Va)).count (0,d,pq)=0)∧Below Y.heap.size Y wy) (fun _ j _=>2-(intOf j).toNat)
    case atStart=>exact⟨0,Vd _,rfl,rfl,fun h=>by omega,fun h=>by omega,Below.refl _ _⟩
    case round=>
     obtain⟨m,hm,rfl,rfl,HA,HB,y⟩:=hrel;have V:=U.below y;have aw:=fun o=>(V.kept (row:=none) (World.grownBy_alloc wr o none) (by simp)).look aB
     have ax:=fun o=>(V.kept (row:=none) (World.grownBy_alloc wr o none) (by simp)).look aC
     simp only[nmV,nmA,nmB,Va]at aw ax;have bt:=nmX0 pi 0 0 0 d pq;have bu:=nmX1 pi 0 0 0 d pq;replace X2:=X2.below y;obtain rfl|rfl|rfl:m=0∨m=1∨m=2:=by omega
     ·by_cases hp:0<(nms (qs.map Va)).count (pi,0,0)
      ·have aj:Hid (knw (qs.map Va) (Va (⟨pi,d,pq,E ba c.length bk,c⟩:TxnQ))=true):=(z9N (acc:=qs.map Va) (t:=Va (⟨pi,d,pq,E ba c.length bk,c⟩:TxnQ)) (fun x hx=>by obtain⟨q,hq,rfl⟩:=List.mem_map.1 hx;exact(hW q (HM.out q hq)).1) h1).2 (Or.inl hp)
       go_wp2
       refine wp_goto ?_;refine⟨rfl,⟨_,_,_,_,_,_,_,_,_,_,_,_,_,_,_,_,_,_,_,_,_,_,_,_,_,_,_,_,_,_,_,_,_,_,_,_,_,_,_,_,_,_,_,_,_,_,_,_,_,_,_,_,_,_,_,_,rfl,k0+(i+1),A,qs,by omega,af,aH,O,HJ.out aj.out,z0a (z0a X y) (by go_grown),HM,(U.below y).below (by go_grown),z.trans ((y.alloc y.size _).mono z.size)⟩,?_⟩;exact ae.out
      ·have hz:(nms (qs.map Va)).count (pi,0,0)=0:=by omega
       rw[hz]at aw
       go_wp2
       go_roundw
       case rel=>exact⟨1,by omega,rfl,by go_num,fun _=>hz,fun h=>by omega,y.alloc y.size _⟩
       case measure=>simp[intOf]
     ·have T:=HA.out (by omega);by_cases hp:0<(nms (qs.map Va)).count (0,d,pq)
      ·have aj:Hid (knw (qs.map Va) (Va (⟨pi,d,pq,E ba c.length bk,c⟩:TxnQ))=true):=(z9N (acc:=qs.map Va) (t:=Va (⟨pi,d,pq,E ba c.length bk,c⟩:TxnQ)) (fun x hx=>by obtain⟨q,hq,rfl⟩:=List.mem_map.1 hx;exact(hW q (HM.out q hq)).1) h1).2 (Or.inr hp)
       go_wp2
       refine wp_goto ?_;refine⟨rfl,⟨_,_,_,_,_,_,_,_,_,_,_,_,_,_,_,_,_,_,_,_,_,_,_,_,_,_,_,_,_,_,_,_,_,_,_,_,_,_,_,_,_,_,_,_,_,_,_,_,_,_,_,_,_,_,_,_,rfl,k0+(i+1),A,qs,by omega,af,aH,O,HJ.out aj.out,z0a (z0a X y) (by go_grown),HM,(U.below y).below (by go_grown),z.trans ((y.alloc y.size _).mono z.size)⟩,?_⟩;exact ae.out
      ·have hz:(nms (qs.map Va)).count (0,d,pq)=0:=by omega
       rw[hz]at ax
       go_wp2
       go_roundw
       case rel=>exact⟨2,by omega,rfl,by go_num,fun _=>T,fun _=>hz,y.alloc y.size _⟩
       case measure=>simp[intOf]
     ·have T:=HA.out (by omega);have aI:=HB.out (by omega);obtain⟨x0,x1,x2,x3,x4,x5⟩:=X2.cel6;replace X1:=X1.below y;have aN:=z0a X y;replace z:=z.trans (y.mono z.size)
      go_wp2
      clear x0 x1 x2 x3 x4 x5 X2 aw ax HA HB y U X;have bc:(nms (qs.map Va)).length≤32:=aW.out;have aP:knw (qs.map Va) (Va (⟨pi,d,pq,E ba c.length bk,c⟩:TxnQ))=false:=by
       cases av:knw (qs.map Va) (Va (⟨pi,d,pq,E ba c.length bk,c⟩:TxnQ))with
       |false=>rfl
       |true=>
        have h9:=(z9N (acc:=qs.map Va) (t:=Va (⟨pi,d,pq,E ba c.length bk,c⟩:TxnQ)) (fun x hx=>by obtain⟨q,hq,rfl⟩:=List.mem_map.1 hx;exact(hW q (HM.out q hq)).1) h1).1 av;have bq:(nms (qs.map Va)).count (nmA (Va (⟨pi,d,pq,E ba c.length bk,c⟩:TxnQ)))=0:=T;have br:(nms (qs.map Va)).count (nmB (Va (⟨pi,d,pq,E ba c.length bk,c⟩:TxnQ)))=0:=aI;omega
      have aV:Hid ((qs++[(⟨pi,d,pq,E ba c.length bk,c⟩:TxnQ)]).map Va=onc [] ((ps.take (k0+(i+1))).map Va)):=show _=_ by
       have h9:=HY.out;rw[aP]at h9;rw[←Nat.add_assoc,h9];simp
      have aX:Hid (∀q∈qs++[(⟨pi,d,pq,E ba c.length bk,c⟩:TxnQ)],q∈ps):=fun q hq=>by
       rcases List.mem_append.1 hq with hq|hq
       ·exact HM.out q hq
       ·rw[List.mem_singleton.1 hq];exact aR
      have aE:Hid (qs.length≤16):=show _≤_ by
       have h9:=bc;rw[q2x]at h9;simp at h9;omega
      have aY:Hid (nms ((qs++[(⟨pi,d,pq,E ba c.length bk,c⟩:TxnQ)]).map Va)=nms (qs.map Va)++[(pi,0,0),(0,d,pq)]):=show _=_ by
       rw[List.map_append];exact(q31 _ _).trans (by simp[nmA,nmB,Va])
      clear aP HY;generalize bw:nms (qs.map Va)=ns at*;go_loopw[43] (fun j wz=>∃m:Nat,m≤2∧j=G S m∧Cts wz w.heap.size (ns++[(pi,0,0),(0,d,pq)].take m)∧wz.ownsRow (w.heap.size+1) 39 4 (E sa qs.length sc) qs.length (txnK.row qs)∧Blk wz BX 39 #[G S pi,G S d,G S pq,E ba c.length bk]∧Below w.heap.size w wz) (fun j _=>2-(intOf j).toNat)
      case atStart=>exact⟨0,Vd _,rfl,by simpa using V,aN,X1,z⟩
      case round=>
       clear V aN X1 z;obtain⟨m,hm,rfl,M,Z,X1,z⟩:=hrel;obtain rfl|rfl|rfl:m=0∨m=1∨m=2:=by omega
       ·simp only[List.take_zero,List.append_nil]at M;have L:Cts (wr.alloc (.cells #[G S pi,G S 0,G S 0] 186)).drew w.heap.size ns:=(M.kept (row:=none) (World.grownBy_alloc wr (.cells #[G S pi,G S 0,G S 0] 186) none) (by simp)).drew;have e0:=L.look aB;obtain⟨v0,st,w1,w3,e1,e2,e3,t1,t3,an⟩:=L.inc aB (by omega);have z1:((0:Nat):Int)+1=1:=rfl;simp only[nmV,nmA,Va,T,z1]at e0 e1 e2 e3;have ak:Hid (w3.ownsRow (w.heap.size+1) 39 4 (E sa qs.length sc) qs.length (txnK.row qs)):=q2A (q0j (z0a Z (by go_grown))) t3;have am:Hid (Blk w3 BX 39 #[G S pi,G S d,G S pq,E ba c.length bk]):=q2B (q0k (X1.below (by go_grown))) t3;have ai:Hid (Below w.heap.size w w3):=z8K (z6R (z.alloc z.size _)) t3 (Vc _);clear t1 t3
        go_wp2
        go_region
        go_wp2
        go_roundw
        case rel=>exact⟨1,by omega,by go_num,an,ak.out,am.out,ai.out⟩
        case measure=>simp[intOf]
       ·have bf:(ns++[(pi,0,0)]).count (0,d,pq)=0:=by
         rw[List.count_append,aI];have:[(pi,(0:Int),(0:Int))].count (0,d,pq)=0:=List.count_eq_zero.2 (by simp;omega);omega
        have aL:Cts wr w.heap.size (ns++[(pi,0,0)]):=M;have L:Cts (wr.alloc (.cells #[G S 0,G S d,G S pq] 186)).drew w.heap.size (ns++[(pi,0,0)]):=(aL.kept (row:=none) (World.grownBy_alloc wr (.cells #[G S 0,G S d,G S pq] 186) none) (by simp)).drew;have e0:=L.look aC;obtain⟨v0,st,w1,w3,e1,e2,e3,t1,t3,an⟩:=L.inc aC (by simp;omega);have z1:((0:Nat):Int)+1=1:=rfl;have ao:Cts w3 w.heap.size (ns++[(pi,0,0),(0,d,pq)]):=by
         have e9:ns++[(pi,0,0)]++[(0,d,pq)]=ns++[(pi,0,0),(0,d,pq)]:=by simp
         rw[←e9];exact an
        simp only[nmV,nmB,Va,bf,z1]at e0 e1 e2 e3;have ak:Hid (w3.ownsRow (w.heap.size+1) 39 4 (E sa qs.length sc) qs.length (txnK.row qs)):=q2A (q0j (z0a Z (by go_grown))) t3;have am:Hid (Blk w3 BX 39 #[G S pi,G S d,G S pq,E ba c.length bk]):=q2B (q0k (X1.below (by go_grown))) t3;have ai:Hid (Below w.heap.size w w3):=z8K (z6R (z.alloc z.size _)) t3 (Vc _);clear t1 t3
        go_wp2
        go_region
        go_wp2
        go_roundw
        case rel=>exact⟨2,by omega,by go_num,ao,ak.out,am.out,ai.out⟩
        case measure=>simp[intOf]
       ·rw[aJ]at X1;obtain⟨y0,y1,y2,y3⟩:=X1.cel4;have I:Below wr.heap.size wr (wr.alloc (.cells #[G S pi,G S d,G S pq,E ba c.length bk] 39)):=by go_grown
        have W:=z0a Z I;have ap:Cts (wr.alloc (.cells #[G S pi,G S d,G S pq,E ba c.length bk] 39)) w.heap.size (ns++[(pi,0,0),(0,d,pq)]):=Cts.below (w:=wr) M I;have ar:=z.trans (I.mono z.size);have aG:Hid (qs.length≤16):=aE;clear Z M z X1 I
        go_wp2_with (at_builtin;refine wpList_append_own_at _ rfl _ _ 25 rfl (w.heap.size+1) 39 i0 (.agg #[G S 0,G S 0,G S 0,E none 0 0]) 4 48 Tryz.underlying25 a8 bi bj bl rfl (by decide) _ qs.length (txnK.row qs) rfl W ⟨wr.heap.size,0,none⟩ 1 1 [G S pi,G S d,G S pq,E ba c.length bk] rfl rfl ?c1 ?c2 ?c3 ?c4 ?c5 ?_)
        all_goals try(case c1=>intro j u hj;match j,hj with|0,hj=>simp at hj;subst hj;simp[Addr.add]|1,hj=>simp at hj;subst hj;simp[Addr.add]|2,hj=>simp at hj;subst hj;simp[Addr.add]|3,hj=>simp at hj;subst hj;simp[Addr.add])
        all_goals try(case c2=>intro u hu;simp at hu;rcases hu with rfl|rfl|rfl|rfl<;>rfl)
        all_goals try(case c3=>have:=aG.out;unfold maxLen;omega)
        all_goals try(case c4=>have:=aG.out;omega)
        all_goals try(case c5=>have:=ap.lt;omega)
        intro v' w5 ag C aS aZ;have ah:txnK.row (qs++[(⟨pi,d,pq,E ba c.length bk,c⟩:TxnQ)])=txnK.row qs++[G S pi,G S d,G S pq,E ba c.length bk]:=by simp[Kind.row];rfl
        have az:w5.ownsRow (w.heap.size+1) 39 4 v' (qs++[(⟨pi,d,pq,E ba c.length bk,c⟩:TxnQ)]).length (txnK.row (qs++[(⟨pi,d,pq,E ba c.length bk,c⟩:TxnQ)])):=by rw[ah,List.length_append];exact ag
        have a2:Below w.heap.size w w5:=ar.grown C ar.size (fun j hj=>by have:=(W.lt j hj).1;omega);have ao:Cts w5 w.heap.size (nms ((qs++[(⟨pi,d,pq,E ba c.length bk,c⟩:TxnQ)]).map Va)):=by
         rw[aY.out];exact ap.kept C (fun e=>by have:=(W.lt _ e.symm).1;omega)
        clear ag C aS aZ ah W ap ar
        go_wp2
        go_roundw
        case rel=>exact⟨i+1,qs++[(⟨pi,d,pq,E ba c.length bk,c⟩:TxnQ)],by omega,rfl,by go_num,aV,az,aX,ao,a2⟩
        case measure=>simp[intOf];omega
   ·have bb:i=rs.length:=by omega
    subst bb;have hE:=HE.out;rw[List.take_of_length_le (by have:=ad.out;omega)]at hE;have hL:qs.length≤16:=by
     have e9:qs.length=(qs.map Va).length:=by simp
     have:=z7m (ps.map Va) [];rw[e9,hE];simp only[List.length_map,List.length_nil]at this;omega
    have hR:∀q∈qs,txnK.rd w q:=fun q hq=>by
     obtain⟨a9,c9,e9,bs,bh⟩:=h;exact bh q (HM.out q hq)
    have aM:=q6t hO (Nat.le_succ w.heap.size)
    go_wp2
    first|go_ret|(simp only[Exit.jump];go_ret)
    first|exact⟨_,qs,rfl,hE,hL,aM,hR,hb⟩|exact⟨_,rfl,qs,hE,hL,aM,hR,hb⟩
end
theorem q5q{w:World}{base e size n:Nat}{v:Value}{xs:List Value}(h:w.ownsRow base e size v n xs):z2F v:=by
 rcases h.2 with⟨rfl,_⟩|⟨g,c,cur,rfl,_,_,h1,h2,_⟩
 ·exact⟨Vc _,by decide⟩
 ·exact⟨h1,h2⟩
theorem q6U{bs:List TxnD}(h:batF bs=0):∀t∈bs,t.F=0:=by
 unfold batF at h;split at h
 ·exact absurd h (by decide)
 ·split at h
  ·rename_i h1 h2
   exact q30 h2
  ·rename_i h1 h2
   exact absurd h h2
theorem q6V{x:InstE}(h:insF x=0):∀t∈x.batch,t.F=0:=by
 obtain⟨h0,_⟩:=z2q h;obtain⟨_,_,_,hb0,hb1⟩:=z1B h0
 cases hh:x.has with
 |false=>
  rw[hb0 hh];intro t ht;simp at ht
 |true=>exact q6U (hb1 hh)
theorem q6u{ds:List InstE}(h:∀x∈ds,insF x=0):∀t∈z4k ds,t.F=0:=by
 intro t ht;unfold z4k at ht;obtain⟨x,hx,ht⟩:=List.mem_flatMap.1 ht;split at ht
 ·exact q6V (h x hx) t ht
 ·simp at ht
theorem z3d(n:Int)(h1:-1000≤n)(h2:n≤1000):(Lit.int .i64 n).wf=true:=by
 have e1:IntKind.i64.min=-9223372036854775808:=by decide
 have e2:IntKind.i64.max=9223372036854775807:=by decide
 show(decide (IntKind.i64.min≤n) && decide (n≤IntKind.i64.max))=true;rw[e1,e2,Bool.and_eq_true,decide_eq_true_eq,decide_eq_true_eq];omega
theorem q6W{t:TxnD}(h:t.F=0):1≤t.id∧nmW (nmA t)∧nmW (nmB t):=by
 obtain⟨⟨h1,h2⟩,⟨h3,h4⟩,⟨h5,h6⟩,_⟩:=z3T h;exact⟨h1,⟨z3d t.id (by omega) (by omega),z3d 0 (by decide) (by decide),z3d 0 (by decide) (by decide)⟩,⟨z3d 0 (by decide) (by decide),z3d t.session (by omega) (by omega),z3d t.seq (by omega) (by omega)⟩⟩
theorem q4x{qs:List TxnQ}(h:∀t∈qs.map Va,t.F=0):nmL TxnQ.n qs≤4*qs.length:=by
 induction qs with
 |nil=>simp[nmL]
 |cons q r ih=>
  have h1:(Va q).F=0:=h _ (by simp);have h2:=(z3T h1).2.2.2.1.2;have h3:q.acts.length≤4:=h2;have:=ih (fun t ht=>h t (by simp only[List.map_cons,List.mem_cons];exact Or.inr ht));simp only[nmL,List.map_cons,List.sum_cons,List.length_cons,TxnQ.n]at this⊢;omega
theorem q2C{ds:List InstE}(h:∀x∈ds,insF x=0):(z4k ds).length≤4*ds.length:=by
 unfold z4k;induction ds with
 |nil=>simp
 |cons x r ih=>
  have h1:=h x (by simp);have:=ih (fun y hy=>h y (List.mem_cons_of_mem _ hy));simp only[List.flatMap_cons,List.length_append,List.length_cons];have h2:x.batch.length≤4:=by
   obtain⟨h0,_⟩:=z2q h1;obtain⟨_,_,_,hb0,hb1⟩:=z1B h0
   cases hh:x.has with
   |false=>rw[hb0 hh];simp
   |true=>
    have h3:=hb1 hh;unfold batF at h3;split at h3
    ·exact absurd h3 (by decide)
    ·omega
  split
  ·omega
  ·simp only[List.length_nil];omega
theorem q2D:(Sl.info? 50).map (·.size)=some 2:=by kernel_rfl
theorem q5r{ds:List InstE}(h:∀x∈ds,insF x=0)(m:Nat):∀t∈defL ds m,t.F=0:=by
 intro t ht;rcases z9A _ _ t ht with ht|ht
 ·simp at ht
 ·exact q6u (fun x hx=>h x (List.mem_of_mem_take hx)) t ht
theorem z4a(v:Value)(ps:List InstQ)(n:Int)(w:World)(hG:Rul w)(h:instK.At w v ps)(ao:z2F v)(hl:(ps.length+nmL InstQ.n ps)≤1048576):
  Calls Sl 32 #[v,G S n] w fun e w'=>∃ (v':Value) (qs:List TxnQ),e=.returned (.agg #[G S (dfC (ps.map Vb) n),v'])∧qs.map Va=dfT (ps.map Vb) n∧txnK.Own w' v' qs∧(txnK.fp v' qs).Nodup∧(∀k∈txnK.fp v' qs,w.heap.size≤k)∧Below w.heap.size w w':=by
 have hB:Below w.heap.size w (w.alloc (.cells #[G S 0,E none 0 0] 50)):=by go_grown
 have Rb:=Blk.new w 50 #[G S 0,E none 0 0];have ah:=z2a v ps _ (hG.below hB) (h.below hB) hl;have HO:Hid (ordF (ps.map Vb)=0→ps.length≤4∧∀q∈ps,insF (Vb q)=0):=fun h0=>by
  have:=((z3G _).1 h0).1;rw[List.length_map]at this;exact⟨this.2,fun q hq=>z2O h0 _ (List.mem_map.2 ⟨q,hq,rfl⟩)⟩
 have HV:Hid (ordF (ps.map Vb)=0→diV (ps.map Vb)=(decN (ps.map Vb):Int)):=fun h0=>if_pos h0
 have hw:=z9L (ps.map Vb) n;have d:Hid _:=hw;clear hw;have ax:decN (ps.map Vb)≤ps.length:=by simpa using q2p (ps.map Vb)
 obtain⟨a,cap,rfl⟩:=h.shape;obtain⟨ap,aq⟩:ps.length≤cap∧cap≤maxLen:=ao;generalize dfC (ps.map Vb) n=D at*;generalize dfT (ps.map Vb) n=O at*;generalize ordF (ps.map Vb)=C at*;generalize diV (ps.map Vb)=V at*;generalize decN (ps.map Vb)=M at*;go_enter func32,ntmps32
 go_wp2_with fail
 refine ah.mono ?_;rintro e w1 ⟨rfl,N⟩;replace hB:=hB.trans (N.mono hB.size);replace Rb:=Rb.below N;clear ah N;have U:Below w1.heap.size w1 (w1.alloc (.cells #[G S C,G S V] 53)):=by go_grown
 have Cb:=Blk.new w1 53 #[G S C,G S V];replace hB:=hB.trans (U.mono hB.size);have aA:w.heap.size<w1.heap.size:=Rb.lt;replace Rb:=Rb.below U;clear U;by_cases hC:C=0
 ·have hv:=HV.out hC;obtain⟨h4,I⟩:=HO.out hC;have ai:∀p∈ps,insF (Vb p)=0:=I;subst hC;subst hv;clear HV HO;have c1:=Cb.cell 1 _ rfl;have c0:=Cb.cell 0 _ rfl;have aj:=fun w=>z0N n 0 (M:Int) w
  go_wp2_with fail
  clear c0 c1;generalize w1.alloc (.cells #[G S 0,G S M] 53)=X at*;refine(aj X).mono ?_;rintro e w2 ⟨rfl,ab⟩;replace ab:=ab.symm;subst ab;by_cases c:0≤n∧n≤(M:Int)
  ·have Y:inW n 0 (M:Int)=true:=by unfold inW;rw[decide_eq_true c.1,decide_eq_true c.2];rfl
   obtain⟨m,rfl⟩:∃m:Nat,n=(m:Int):=⟨n.toNat,by omega⟩
   have hm:m≤ps.length:=by omega
   have E0:Hid (D=0∧O=defL (ps.map Vb) m):=by
    rcases d.out with⟨h0,_⟩|⟨_,h0,_⟩|⟨_,_,h0,h1⟩
    ·exact absurd rfl h0
    ·exact absurd c h0
    ·exact⟨h0,by simpa using h1⟩
   clear d;rw[Y];have hT:=h.takeK m hm;have ak:=z9M (E a m cap) (ps.take m) X (hG.below hB) (hT.below hB) (fun p hp=>I p (List.mem_of_mem_take hp)) (by rw[List.length_take];omega) (by have:=z4H InstQ.n ps m;rw[List.length_take];omega);have ay:(0:Int)≤(m:Int):=by omega
   have az:(m:Int)≤(cap:Int):=by omega
   have ar:m≤cap:=by omega
   have ae:Hid (∀ t∈z4k ((ps.take m).map Vb),t.F=0):=q6u (fun x hx=>by
    obtain⟨p,hp,rfl⟩:=List.mem_map.1 hx;exact I p (List.mem_of_mem_take hp))
   have ad:Hid (onc [] (z4k ((ps.take m).map Vb))=defL (ps.map Vb) m):=show _=_ by unfold defL;rw[List.map_take]
   clear aj I ai hT;have aw:w.heap.size<X.heap.size:=Rb.lt
   go_wp2_with fail
   refine ak.mono ?_;rintro e w3 ⟨v3,q3,rfl,e3,l3,o3,al,z⟩;replace Rb:=Rb.below z;have J:=hB.trans (z.mono hB.size);have F3:∀t∈q3.map Va,t.F=0:=fun t ht=>ae.out t (by rw[←e3];exact ht)
   have af:txnK.At w3 v3 q3:=Kind.at_of_row o3 (fun q hq=>txnK.rd_below (al q hq) z);have aa:=z8L v3 q3 w3 af (q5q o3) l3 (fun p hp=>q6W (t:=Va p) (F3 _ (List.mem_map.2 ⟨p,hp,rfl⟩)));rw[e3,ad.out]at aa;obtain⟨a3,c3,rfl⟩:=z0f o3;clear ak o3 al af ae ad z hB
   go_wp2_with fail
   refine aa.mono ?_;rintro e w4 ⟨v4,q4,rfl,e4,l4,o4,am,A⟩;replace Rb:=Rb.below A;have L:=J.trans (A.mono J.size);have F4:∀t∈q4.map Va,t.F=0:=fun t ht=>by
    rw[e4]at ht;rcases z9A _ _ t ht with ht|ht
    ·simp at ht
    ·exact F3 t (by rw[e3,List.map_take];exact ht)
   have ag:txnK.At w4 v4 q4:=Kind.at_of_row o4 (fun q hq=>txnK.rd_below (am q hq) A);have W:=z1j v4 q4 w4 ag (fun p hp=>by
    have:=(z3T (F4 _ (List.mem_map.2 ⟨p,hp,rfl⟩))).2.2.2.1.1;have h9:1≤p.acts.length:=this;omega) (by have:=q4x F4;omega)
   rw[e4]at W;obtain⟨a4,c4,rfl⟩:=z0f o4;have av:w.heap.size<w4.heap.size:=Rb.lt;clear aa o4 am ag A J F3 F4 e3 e4
   go_wp2_with fail
   refine W.mono ?_;rintro e w5 ⟨v5,q5,rfl,e5,o5,n5,g5,T⟩;replace Rb:=Rb.below T;have an:=L.trans (T.mono L.size);obtain⟨a5,c5,rfl⟩:=o5.shape;have E5:Hid (q5.map Va=O):=show _=_ by rw[E0.out.2];exact e5
   have ED:Hid (D=0):=E0.out.1;clear W T L e5 E0;have KF:=z0j an (Vc w.heap.size) #[G S 0,E a5 q5.length c5];have O5:Hid _:=o5.out (z0A _ w.heap.size #[G S 0,E a5 q5.length c5]) (fun k hk=>by have:=g5 k hk;simp only[List.mem_singleton];omega);have g6:∀k∈txnK.fp (E a5 q5.length c5) q5,w.heap.size≤k:=fun k hk=>by have:=g5 k hk;omega
   have Rr:=Rb.row #[G S 0,E a5 q5.length c5]
   go_wp2_with (first|(refine z0r (by kernel_rfl) 50 _ _ rfl _ #[G S 0,E a5 q5.length c5] rfl rfl 50 _ Rb q2D rfl (by simp[Value.oneCell']) ?_))
   obtain⟨y0,y1⟩:=Rr.cel2;refine bodyPost_ret (v:=.agg #[G S 0,E a5 q5.length c5]) (by simp[results,results32,go_sem,y0,y1]) rfl ?_;exact⟨_,q5,by rw[ED.out],E5.out,O5.out,n5,g6,KF⟩
  ·have Y:inW n 0 (M:Int)=false:=by
    unfold inW;rw[Bool.and_eq_false_iff,decide_eq_false_iff_not,decide_eq_false_iff_not];omega
   have E0:Hid (D=3∧O=[]):=by
    rcases d.out with⟨h0,_⟩|⟨_,_,h0,h1⟩|⟨_,h0,_⟩
    ·exact absurd rfl h0
    ·exact⟨h0,h1⟩
    ·exact absurd h0 c
   clear d;rw[Y];obtain⟨Z,y⟩:=Kind.own_nil (K:=txnK) (X.setRow w.heap.size #[G S 3,E none 0 0]);have KF:=z0j hB (Vc w.heap.size) #[G S 3,E none 0 0];have Rr:=Rb.row #[G S 3,E none 0 0]
   go_wp2_with (first|(refine z0r (by kernel_rfl) 50 _ _ rfl _ #[G S 3,E none 0 0] rfl rfl 50 _ Rb q2D rfl (by simp[Value.oneCell']) ?_))
   obtain⟨y0,y1⟩:=Rr.cel2;refine bodyPost_ret (v:=.agg #[G S 3,E none 0 0]) (by simp[results,results32,go_sem,y0,y1]) rfl ?_;exact⟨_,[],by rw[E0.out.1],by rw[E0.out.2];rfl,Z,by rw[y];simp,by rw[y];simp,KF⟩
 ·have E0:Hid (D=C∧O=[]):=by
   rcases d.out with⟨_,h0,h1⟩|⟨h0,_⟩|⟨h0,_⟩
   ·exact⟨h0,h1⟩
   ·exact absurd h0 hC
   ·exact absurd h0 hC
  clear d HV HO;have au:(C !=0)=true:=by simpa using hC
  obtain⟨c0,c1⟩:=Cb.cel2;obtain⟨Z,y⟩:=Kind.own_nil (K:=txnK) ((w1.alloc (.cells #[G S C,G S V] 53)).setRow w.heap.size #[G S C,E none 0 0]);have KF:=z0j hB (Vc w.heap.size) #[G S C,E none 0 0];have Rr:=Rb.row #[G S C,E none 0 0]
  go_wp2_with (first|(refine z0r (by kernel_rfl) 50 _ _ rfl _ #[G S C,E none 0 0] rfl rfl 50 _ Rb q2D rfl (by simp[Value.oneCell']) ?_))
  obtain⟨y0,y1⟩:=Rr.cel2;refine bodyPost_ret (v:=.agg #[G S C,E none 0 0]) (by simp[results,results32,go_sem,y0,y1]) rfl ?_;exact⟨_,[],by rw[E0.out.1],by rw[E0.out.2];rfl,Z,by rw[y];simp,by rw[y];simp,KF⟩
theorem q6X{ps:List InstQ}{n:Int}{qs:List TxnQ}(h:qs.map Va=dfT (ps.map Vb) n)(_:ps.length+nmL InstQ.n ps≤1048576):qs.length+nmL TxnQ.n qs≤1048576:=by
 rcases z9L (ps.map Vb) n with⟨_,_,e⟩|⟨_,_,_,e⟩|⟨h0,h1,_,e⟩
 ·rw[e]at h;have:qs=[]:=List.map_eq_nil_iff.1 h;subst this;simp[nmL]
 ·rw[e]at h;have:qs=[]:=List.map_eq_nil_iff.1 h;subst this;simp[nmL]
 ·rw[e]at h;have hF:∀t∈qs.map Va,t.F=0:=fun t ht=>q5r (z2O h0) _ t (by rw[←h];exact ht)
  have h4:=q4x hF;have h16:qs.length≤16:=by
   have e1:qs.length=(qs.map Va).length:=by simp
   rw[e1,h];have:=z7m (z4k ((ps.map Vb).take n.toNat)) [];have h5:=q2C (ds:=(ps.map Vb).take n.toNat) (fun x hx=>z2O h0 x (List.mem_of_mem_take hx));have h6:=((z3G _).1 h0).1.2;rw[List.length_take]at h5;unfold defL;simp only[List.length_nil]at this;omega
  omega
section
variable {ops:Array Oper} {rest:List Oper} {op:Oper} {a:Act} {w:World} {Q:Exit→Act→World→Prop}
theorem q4y(hw:Region.wanted op (yielded ops a.tmps)=true)(ty:TypeId)(x y:Operand)(ho:op.op=.store ty x y)
  (g o:Nat) (cells:Array Value) (hx:a.eval x=.pointer (some ⟨g,o,none⟩)) (hy:a.eval y=.agg cells)
  (t:TypeId) (old:Array Value) (hg:Blk w g t old) (hi:(Sl.info? ty).map (·.size)=some cells.size)
  (hold:o+cells.size≤old.size) (h1:cells.all (·.oneCell')=true)
  (h:wpList Sl ops Q rest (a.put op.dst undef) (w.setCells g o cells.toList)):wpList Sl ops Q (op::rest) a w:=by
 simp only[wpList];rw[if_pos hw];refine Or.inl (wp_store_mid ty x y ho g o cells hx hy ?_ hi h1 h);intro j hj;refine⟨?_,hg.frozen _⟩;rw[hg.cell (o+j) (old[o+j]'(by omega)) (by rw[Array.getElem?_eq_getElem])];rfl
end
theorem Blk.mid5{w:World}{b:Nat}{t:TypeId}{c0 c1 d0 d1 d2 d3 d4:Value}(h:Blk w b t #[c0,c1,d0,d1,d2,d3,d4])(x0 x1 x2 x3 x4:Value):Blk (w.setCells b 2 [x0,x1,x2,x3,x4]) b t #[c0,c1,x0,x1,x2,x3,x4]:=by
 have:=((((h.set 2 x0).set 3 x1).set 4 x2).set 5 x3).set 6 x4;simpa only[World.setCells,pjE]using this
theorem q0l(w:World)(b:Nat)(x0 x1 x2 x3 x4:Value):Out [b] w (w.setCells b 2 [x0,x1,x2,x3,x4]):=
 (((((Out.refl [b] w).set (b:=b) (j:=2) (u:=x0) (by simp)).set (b:=b) (j:=3) (u:=x1) (by simp)).set (b:=b) (j:=4) (u:=x2) (by simp)).set (b:=b) (j:=5) (u:=x3) (by simp)).set (b:=b) (j:=6) (u:=x4) (by simp)
theorem z1I(w:World)(g:Nat)(cs:Array Value):Out [g] w (w.setRow g cs):=
 ⟨rfl,rfl,rfl,by rw[setRow_size];exact Vc _,fun k _ hn=>setRow_other w g k cs (by simpa using hn)⟩
def z2Q(c:Int)(p:USQ):USQ:=⟨p.va,z17 (c) p.us⟩
def nmUs(p:USQ):Nat:=p.us.length*3
theorem z8M(c:Int)(p:USQ):ussK.foot (z2Q c p)=ussK.foot p:=by
 simp only[z2Q,show∀p:USQ,ussK.foot p=undoK.fp p.va p.us from fun _=>rfl,z6E]
theorem q2E(v:Value)(ps:List USQ)(c:Int)(w:World)(h:ussK.Own w v ps)(aj:(ussK.fp v ps).Nodup)(hl:(ps.length+nmL USQ.n ps)≤1048576)(h0:0≤c)(h1:c+(nmL nmUs ps:Int)≤1099511627776):
  Calls Sl 144 #[v,G S c] w fun e w'=>e=.returned (G S (c+(nmL nmUs ps:Int)))∧ussK.Own w' v (mkL z2Q nmUs c ps)∧Out (ussK.fp v ps) w w':=by
 obtain⟨a,cap,rfl⟩:=h.shape;have L:∀k,k≤ps.length→ussK.fp (E a ps.length cap) (half z2Q nmUs c ps k)=ussK.fp (E a ps.length cap) ps:=fun k hk=>z62 z8M _ c ps k
 have HF:Hid (∀k,k≤ps.length→ussK.fp (E a ps.length cap) (half z2Q nmUs c ps k)=ussK.fp (E a ps.length cap) ps):=L;have HA:Hid (ussK.Own w (E a ps.length cap) (half z2Q nmUs c ps 0)):=by rw[z3Q];exact h
 clear L h;go_enter func144,ntmps144
 go_wp2
 go_loopw[1,5] (fun j i wr=>∃k:Nat,k≤ps.length∧j=G S (c+(nmL nmUs (ps.take k):Int))∧i=G S k∧Hid (ussK.Own wr (E a ps.length cap) (half z2Q nmUs c ps k))∧Hid (Out (ussK.fp (E a ps.length cap) ps) w wr)) (fun _ i _=>ps.length-(intOf i).toNat)
 case atStart=>exact⟨0,Vd _,by simp[nmL],rfl,HA,Out.refl _ _⟩
 case round=>
  clear HA;obtain⟨k,hk,rfl,rfl,HO,HU⟩:=hrel;by_cases C:k<ps.length
  ·have ar:(half z2Q nmUs c ps k).length=ps.length:=z1S _ _ _ _ _ hk;have hO:=HO.out;obtain⟨g,rfl⟩:=hO.blkOf (by omega);have M:(ussK.fp (E (some ⟨g,0,none⟩) ps.length cap) (half z2Q nmUs c ps k)).Nodup:=by rw[HF.out k hk];exact aj
   have O:Hid (∀x∈ussK.foot ps[k],x∈ussK.fp (E (some ⟨g,0,none⟩) ps.length cap) ps):=fun x hx=>by
    simp only[Kind.fp,List.mem_append,List.mem_flatMap];exact Or.inr ⟨_,List.getElem_mem C,hx⟩
   have af:Hid (∀x∈[g],x∈ussK.fp (E (some ⟨g,0,none⟩) ps.length cap) ps):=fun x hx=>by
    simp only[List.mem_singleton]at hx;subst hx;simp[Kind.fp,blk,Value.ownBlock]
   have Y:k<(half z2Q nmUs c ps k).length:=by omega
   have A:=z5d z2Q nmUs c ps k C;have z:ussK.Own wr (E (some ⟨g,0,none⟩) ps.length cap) ((half z2Q nmUs c ps k).set k ps[k]):=by
    have e:(half z2Q nmUs c ps k).set k ps[k]=half z2Q nmUs c ps k:=by
     rw[←A,List.set_getElem_self]
    rw[e];exact hO
   have V:(ussK.fp (E (some ⟨g,0,none⟩) ps.length cap) ((half z2Q nmUs c ps k).set k ps[k])).Nodup:=by
    have e:(half z2Q nmUs c ps k).set k ps[k]=half z2Q nmUs c ps k:=by
     rw[←A,List.set_getElem_self]
    rw[e];exact M
   clear A hO M;have N:=z5e z2Q nmUs c ps k C;have am:=z1v nmUs ps k C;have ah:=z4H nmUs ps (k+1);have ao:=z1r USQ.n ps k C;have W:Hid ((nmL nmUs (ps.take (k+1)):Int)=(nmL nmUs (ps.take k):Int)+(nmUs ps[k]:Int)):=show _=_ by omega
   have an:(nmL nmUs (ps.take k):Int)+(nmUs ps[k]:Int)≤nmL nmUs ps:=by omega
   have J:Hid ((half z2Q nmUs c ps k).set k (z2Q (c+(nmL nmUs (ps.take k):Int)) ps[k])=half z2Q nmUs c ps (k+1)):=N;clear N am ah HO;generalize half z2Q nmUs c ps k=hs at*;generalize al:ps[k]=p at*;clear al;obtain⟨I,d⟩:=p;have T:k<hs.length:=Y;dsimp only[nmUs,USQ.n]at W an ao;generalize hy:(nmL nmUs (ps.take k):Int)=y at*;have au:0≤y:=by omega
   clear hy;obtain⟨c0,f0⟩:=z.cell' T 0 (I) rfl;rw[show k*ussK.size+0=k from by show k*1+0=k;omega]at c0 f0;have X:=z.elem' T;have U:undoK.Own wr I d:=X;have Z:=z9m I d (c+y) _ U (by omega) (by omega) (by omega);obtain⟨ap,aq,ab⟩:=U.shape;subst ab;clear X U
   go_wp2_with fail
   refine Z.mono ?_;rintro e ad ⟨rfl,ai,aa⟩;clear Z;obtain⟨ae,ak⟩:=z.turn' V T (⟨E ap d.length aq,z17 (c+y) d⟩:USQ) aa (fun x hx=>hx) rfl (by exact z6E _ _ _) (ai);have HU:Hid (Out (ussK.fp (E (some ⟨g,0,none⟩) ps.length cap) ps) w ad):=HU.out.trans (aa.mono (fun x hx=>O.out x (show x∈ussK.foot _ from(fun x hx=>hx) x hx)));have z:=ae;have V:=ak;have R:Hid (ussK.Own ad (E (some ⟨g,0,none⟩) ps.length cap) (half z2Q nmUs c ps (k+1))):=by rw[←J.out];exact z
   clear z V J O af
   go_wp2
   go_roundw
   case rel=>exact⟨k+1,by omega,by rw[W.out];congr 1;omega,by go_num,R.out,HU.out⟩
   case measure=>simp[intOf];omega
  ·have ag:k=ps.length:=by omega
   subst ag;have hO:=HO.out;rw[z5c]at hO;rw[List.take_length];clear HF HO
   go_wp2
   go_ret;exact⟨rfl,hO,HU.out⟩
theorem q2F(v:Value)(ps:List USQ)(c:Int)(w:World)(h:ussK.At w v (mkL z2Q nmUs c ps))(hl:(ps.length+nmL USQ.n ps)≤1048576)(h0:0≤c)(h1:c+(nmL nmUs ps:Int)≤1099511627776):
  Calls Sl 199 #[v,G S c] w fun e w'=>e=.returned (G S (c+(nmL nmUs ps:Int)))∧Below w.heap.size w w':=by
 obtain⟨a,cap,rfl⟩:=h.shape;have C:=z1z z2Q nmUs c ps;rw[C]at h⊢;have HM:Hid ((mkL z2Q nmUs c ps).length=ps.length):=C;clear C;go_enter func199,ntmps199
 go_wp2
 go_loopw[1,5] (fun j i wr=>∃k:Nat,k≤ps.length∧j=G S (c+(nmL nmUs (ps.take k):Int))∧i=G S k∧Below w.heap.size w wr) (fun _ i _=>ps.length-(intOf i).toNat)
 case atStart=>exact⟨0,Vd _,by simp[nmL],rfl,Below.refl _ _⟩
 case round=>
  obtain⟨k,hk,rfl,rfl,hb⟩:=hrel;by_cases A:k<ps.length
  ·have N:k<(mkL z2Q nmUs c ps).length:=by have:=HM.out;omega
   obtain⟨b,aa,rfl,ab,hc,O⟩:=(h.below hb).cell (by decide) k N;rw[z9e z2Q nmUs c ps k A]at hc O;have X:=z1v nmUs ps k A;have V:=z4H nmUs ps (k+1);have Z:=z1r USQ.n ps k A;have I:Hid ((nmL nmUs (ps.take (k+1)):Int)=(nmL nmUs (ps.take k):Int)+(nmUs ps[k]:Int)):=show _=_ by omega
   have Y:(nmL nmUs (ps.take k):Int)+(nmUs ps[k]:Int)≤nmL nmUs ps:=by omega
   clear X V h;generalize W:ps[k]=p at*;clear W;obtain⟨z,d⟩:=p;dsimp only[nmUs,USQ.n]at I Y Z;generalize hy:(nmL nmUs (ps.take k):Int)=y at*;have ad:0≤y:=by omega
   clear hy;have L:∀j x,(ussK.cells (z2Q (c+y) (⟨z,d⟩:USQ)))[j]?=some x→wr.cell? ⟨b,aa+k+j,none⟩=some x:=fun j x hx=>by have:=hc j x hx;rwa [show k*ussK.size=k from Nat.mul_one k]at this
   clear hc;have c0:=L 0 (z) rfl;have r0:undoK.At wr z (z17 (c+y) d):=O;have M:=fun w h=>z9n z d (c+y) w h (by omega) (by omega) (by omega)
   obtain⟨af,ag,T⟩:=r0.shape;subst T;rw[Nat.add_zero]at c0;clear L;have ae:¬(c+y+((d.length*3:Nat):Int)<0):=by omega
   go_wp2_with fail
   refine(M wr r0).mono ?_;rintro e w0 ⟨rfl,J⟩;replace hb:=hb.trans (J.mono hb.size);clear J M c0
   go_wp2
   go_roundw
   case rel=>exact⟨k+1,by omega,by rw[I.out];congr 1;omega,by go_num,hb⟩
   case measure=>simp[intOf];omega
  ·have U:k=ps.length:=by omega
   subst U;rw[List.take_length]
   go_wp2
   go_ret;exact⟨rfl,hb⟩
end Go.Proofs.YtlkpdgjnhkjpjaaGreatDoor

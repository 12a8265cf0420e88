/- Texts joined,with what the laws reach alone. -/
import Derived.Test.YtlkpdgjnhkjpjaaGreatDoorSCAR
import Derived.Maps.OwnSet
import Derived.WideKeyEntry
import Derived.ScopeJumps
import Derived.WalkMore
import Derived.Lib.SliceRun
set_option linter.unusedVariables false
set_option linter.unusedSimpArgs false
set_option maxRecDepth 100000
set_option maxHeartbeats 8000000
namespace Go.Proofs.YtlkpdgjnhkjpjaaGreatDoor
open Go.RowKit Go.BigFrame
section
open Go.Maps Go.WideShapes Go.MapKept Go.ChangeMaps Go.ChangeShapes Go.WideElems
theorem q1Z{H:Type}{P:Program}{w:World}{t k e:TypeId}{R:Value→Option (DataW H × List MemPlace)}{b n:Nat}{D:DataW H}(h:w.ownsMap P k R b n D)(L:Go.WideMaps.KeyLaw P k)
  (ht:P.underlying t=some (.map k e)) {z:Value} (hz:∀u:World,(zeroValue e).run P u=.ok z u) {zd:DataW H} {zp:List MemPlace} (aj:R z=some (zd,zp)) (hn:n<maxLen)
  {key:Value} {kl:Lit} (x:keyOf P k key=some kl):
  ∃ (v0:Value) (st:Nat) (w1:World) (D1:DataW H),(Instr.mapEntry t (.map (some b)) key).run P w=.ok (.tuple #[v0,goInt st]) w1∧w.mapTurned w1 b∧
   w1.ownsMap P k R b (n+1) D1∧D1.atKey kl zd=D.atKey kl zd∧
   ∀ (w2:World) (M:Value) (d:DataW H) (ps:List MemPlace),w2.heap[b]?=w1.heap[b]?→R M=some (d,ps)→
    ∃w3,(Instr.entryStore t (.map (some b)) (goInt st) M).run P w2=.ok () w3∧w3.ownsMap P k R b (n+1) (D.put kl d)∧w2.mapTurned w3 b:=by
 have K:Keyed P k:=Keyed.of_law L;have h0:=h;obtain⟨es,c,hb,F,hs,hD⟩:=h;obtain⟨v0,st,J,A,hr,hv,ah⟩:=entry_then_store L ht hz hb F x;have U:(setBlock w b (.map J A)).heap[b]?=some (.map J A):=heap_setBlock_same hb _;have W:∃D1,(setBlock w b (.map J A)).ownsMap P k R b (n+1) D1∧D1.atKey kl zd=D.atKey kl zd:=by
  rcases K.find w x es.toList F.keys with⟨h1,h2⟩|⟨j,e0,h1,h2,h3⟩
  ·obtain⟨w',hrun,I,_⟩:=h0.store K ht hn x aj;have e1:(Instr.mapEntry t (.map (some b)) key).run P w=.ok (.tuple #[z,goInt c]) (setBlock w b (.map (es.push ⟨key,z,c⟩) (c+1))):=by
    simp[Instr.mapEntry,run_underlying ht,MapKept.run_getObj_map hb,K.check w false x,h1,hz,MapKept.run_setObj_map _ hb,Result.andThen,setBlock]
   have e2:(Instr.mapUpdate t (.map (some b)) key z).run P w=.ok () (setBlock w b (.map (es.push ⟨key,z,c⟩) (c+1))):=by
    simp[Instr.mapUpdate,run_underlying ht,MapKept.run_getObj_map hb,K.check w false x,h1,MapKept.run_setObj_map _ hb,Result.andThen,setBlock]
   rw[e1]at hr;rw[e2]at hrun;simp only[Result.ok.injEq,true_and]at hrun hr;rw[←hr.2,hrun];refine⟨_,I,?_⟩;rw[atKey_put_same h0.isMap (K.key x)];have ai:(zeroValue e).run P w=.ok z w:=hz w;rcases fit_look false K ht ai hb F x with⟨_,_,Z⟩|⟨e0,y,ad,ab,_⟩
   ·rw[hD,Z zd]
   ·exact absurd ab (h2 e0 ad)
  ·have hj:es[j]?=some e0:=by simpa using h2
   have ag:es.modify j (fun e=>{e with key:=key})=es:=by
    apply Array.ext';rw[Array.toList_modify,modify_eq_set _ _ _ _ h2];have:({e0 with key:=key}:MapEntry)=e0:=by rw[←h3]
    rw[this];exact set_self _ _ _ h2
   have e1:(Instr.mapEntry t (.map (some b)) key).run P w=.ok (.tuple #[e0.val,goInt e0.born]) (setBlock w b (.map es c)):=by
    simp[Instr.mapEntry,run_underlying ht,MapKept.run_getObj_map hb,K.check w false x,h1,hj,h3,L.stays w x,ag,MapKept.run_setObj_map _ hb,Result.andThen,setBlock]
   rw[e1]at hr;simp only[Result.ok.injEq]at hr;rw[←hr.2];exact⟨D,⟨es,c,heap_setBlock_same hb _,F,by omega,hD⟩,rfl⟩
 obtain⟨D1,T,V⟩:=W;refine⟨v0,st,_,D1,hr,⟨es,c,J,A,hb,rfl⟩,T,V,fun w2 M d ps h2 X=>?_⟩;have O:=h2.trans U;obtain⟨N,C,ae,af⟩:=ah w2 M O;obtain⟨w',hrun,I,_⟩:=h0.store K ht hn x X;rw[af]at hrun;simp only[Result.ok.injEq,true_and]at hrun;refine⟨_,ae,?_,⟨J,A,N,C,O,rfl⟩⟩;rw[←hrun]at I;obtain⟨Y,cx,aa,rest⟩:=I;have e3:(setBlock w b (.map N C)).heap[b]?=(setBlock w2 b (.map N C)).heap[b]?:=by
  rw[heap_setBlock_same hb,heap_setBlock_same O]
 exact⟨Y,cx,e3▸aa,rest⟩
end
section
open Go.Maps
def Cts(w:World)(b:Nat)(ns:List Nm):Prop:=∃D:DataW Unit,w.ownsMap Tryz.prog 186 (plainElem Tryz.prog 2) b ns.length D∧Cnt D ns
theorem q5z:Go.WideMaps.KeyLaw Tryz.prog 186:=deep_law_laid q5v (m:=2) (by omega) q5w (by kernel_rfl) q3O
theorem q10(u:World):(zeroValue 2).run Tryz.prog u=.ok (.int .i64 0) u:=by
 kernel_rfl
theorem Cts.made(w:World):Cts (w.alloc (.map #[] 0)) w.heap.size []:=⟨_,World.ownsMap_made w _ _ _,Cnt.none⟩
theorem Cts.lt{w:World}{b:Nat}{ns:List Nm}(h:Cts w b ns):b<w.heap.size:=by
 obtain⟨D,h,_⟩:=h;exact h.lt
theorem Cts.kept{w w':World}{b:Nat}{ns:List Nm}{row:Option Nat}(h:Cts w b ns)(hg:w.grownBy w' row)(hne:some b≠row):Cts w' b ns:=by
 obtain⟨D,h,hc⟩:=h;exact⟨D,h.kept hg hne,hc⟩
theorem Cts.look{w:World}{b:Nat}{ns:List Nm}(h:Cts w b ns){x:Nm}(hx:nmW x):(Instr.lookup 184 (.map (some b)) (nmV x) false).run Tryz.prog w=.ok (.int .i64 (ns.count x)) w:=by
 obtain⟨D,h,hc⟩:=h;obtain⟨c,hr,hat,_⟩:=h.lookup_int lawNm Tryz.underlying184 Tryz.underlying2 (q10 w) (z4a hx);rw[hc.2 x hx]at hat;simp only[DataW.lit.injEq,Lit.int.injEq,true_and]at hat;rw[hr,hat]
theorem Cts.inc{w:World}{b:Nat}{ns:List Nm}(h:Cts w b ns){x:Nm}(hx:nmW x)(hl:ns.length<1000):
  ∃ (v0:Value) (st:Nat) (w1 w3:World),(Instr.mapEntry 184 (.map (some b)) (nmV x)).run Tryz.prog w=.ok (.tuple #[v0,.int .i64 st]) w1∧
   (Instr.lookup 184 (.map (some b)) (nmV x) false).run Tryz.prog w1=.ok (.int .i64 (ns.count x)) w1∧
   (Instr.entryStore 184 (.map (some b)) (.int .i64 st) (.int .i64 ((ns.count x:Int)+1))).run Tryz.prog w1=.ok () w3∧w.mapTurned w1 b∧w.mapTurned w3 b∧Cts w3 b (ns++[x]):=by
 obtain⟨D,h,hc⟩:=h;have N:ns.count x≤ns.length:=List.count_le_length;have w0:(Lit.int .i64 0).wf=true:=by decide
 have wc:(Lit.int .i64 ((ns.count x:Int)+1)).wf=true:=WalkArith.wf_i64 (by omega);obtain⟨v0,st,w1,D1,hr,z,A,y,L⟩:=q1Z h q5z Tryz.underlying184 q10 (plainElem_int Tryz.underlying2 w0) (by unfold maxLen;omega) (z4a hx);obtain⟨w3,I,C,M⟩:=L w1 _ _ _ rfl (plainElem_int Tryz.underlying2 wc);obtain⟨c,J,d,_⟩:=A.lookup_int lawNm Tryz.underlying184 Tryz.underlying2 (q10 w1) (z4a hx);rw[y,hc.2 x hx]at d;simp only[DataW.lit.injEq,Lit.int.injEq,true_and]at d;refine⟨v0,st,w1,w3,hr,by rw[J,d],I,z,z.trans M,⟨_,?_,hc.put hx⟩⟩;rw[List.length_append];exact C
theorem Cts.below{w w':World}{b:Nat}{ns:List Nm}(h:Cts w b ns)(hb:Below w.heap.size w w'):Cts w' b ns:=by
 obtain⟨D,h,hc⟩:=h;have hlt:=h.lt;obtain⟨es,clock,h1,r⟩:=h;exact⟨D,⟨es,clock,(hb.block b hlt).trans h1,r⟩,hc⟩
theorem Cts.drew{w:World}{b:Nat}{ns:List Nm}(h:Cts w b ns):Cts w.drew b ns:=h
theorem z6s{B:Nat}{w w':World}(h:Below B w w'):Below B w w'.drew:=⟨h.os,h.tape,h.output,h.size,h.block⟩
theorem z9Q{w:World}{base e size n:Nat}{v:Value}{xs:List Value}(h:w.ownsRow base e size v n xs):w.drew.ownsRow base e size v n xs:=h
theorem z9R{w:World}{b:Nat}{t:TypeId}{cs:Array Value}(h:Blk w b t cs):Blk w.drew b t cs:=h
theorem q11{w w':World}{M e size n:Nat}{v:Value}{xs:List Value}(h:w.ownsRow (M+1) e size v n xs)(ht:w.mapTurned w' M):w'.ownsRow (M+1) e size v n xs:=by
 refine h.kept ht.grown ?_
 cases hv:v.ownBlock with
 |none=>exact Or.inl rfl
 |some k=>
  have:=(h.lt k hv).1;exact Or.inr (fun e=>by simp at e;omega)
theorem q12{w w':World}{b M:Nat}{t:TypeId}{cs:Array Value}(h:Blk w b t cs)(ht:w.mapTurned w' M):Blk w' b t cs:=by
 refine h.grown ht.grown (fun e=>?_);obtain⟨es,clock,es',clock',hb,_⟩:=ht;simp only[Option.some.injEq]at e;subst e;have h2:w.heap[b]?=some (.cells cs t):=h;rw[h2]at hb
 cases hb
theorem z8n{B M:Nat}{w0 w w':World}(h:Below B w0 w)(ht:w.mapTurned w' M)(hM:B≤M):Below B w0 w':=by
 have hg:=ht.grown;obtain⟨es,clock,es',clock',hb,rfl⟩:=ht;have hl:M<w.heap.size:=(Array.getElem?_eq_some_iff.1 hb).1;refine⟨hg.os.trans h.os,hg.tape.trans h.tape,hg.output.trans h.output,Nat.le_trans h.size hg.size,fun k hk=>(hg.block k (by omega) (fun e=>?_)).trans (h.block k hk)⟩;simp only[Option.some.injEq]at e;omega
theorem q5A{w:World}{base base' e size n:Nat}{v:Value}{xs:List Value}(h:w.ownsRow base e size v n xs)(hb:base'≤base):w.ownsRow base' e size v n xs:=by
 refine⟨h.1,?_⟩;rcases h.2 with h2|⟨g,cap,cur,hv,hg,hh,r⟩
 ·exact Or.inl h2
 ·exact Or.inr ⟨g,cap,cur,hv,by omega,hh,r⟩
theorem nmX0(a b c d e f:Int)(w:World):(Instr.index 187 (.agg #[.int .i64 a,.int .i64 b,.int .i64 c,.int .i64 d,.int .i64 e,.int .i64 f]) (.int .i64 0)).run Tryz.prog w=.ok (.agg #[.int .i64 a,.int .i64 b,.int .i64 c]) w:=by kernel_rfl
theorem nmX1(a b c d e f:Int)(w:World):(Instr.index 187 (.agg #[.int .i64 a,.int .i64 b,.int .i64 c,.int .i64 d,.int .i64 e,.int .i64 f]) (.int .i64 1)).run Tryz.prog w=.ok (.agg #[.int .i64 d,.int .i64 e,.int .i64 f]) w:=by kernel_rfl
theorem z5v{P:Program}{a:Act}{w:World}{Q:Exit→Act→World→Prop}{c X:Code}(l:Nat)(J:Act→World→Prop)(μ:Act→World→Nat)(hf:findLabel c l=some (Code.skip.seq X))
  (first:(∀a w,J a w→X.wp P (Exit.jump l J Q) a w)→c.wp P (Exit.jump l J Q) a w)
  (pass:∀a w,J a w→X.wp P (Exit.jump l (fun a' w'=>J a' w'∧μ a' w'<μ a w) Q) a w):(Code.scope c).wp P Q a w:=by
 refine wp_scope_jumps l J μ hf (first fun a w h=>?_) (fun a w h=>wp_seq_k fun K hK=>wp_skip (hK _ _ (pass a w h)));refine wp_mono (pass a w h) (fun e a w he=>?_)
 cases e with
 |goto l'=>exact⟨he.1,he.2.1⟩
 |normal=>exact he
 |exit id=>exact he
 |ret=>exact he
 |panic ch=>exact he
 |outgrown=>exact he
theorem q0J{P:Program}{a0:Act}{w0:World}{Q:Exit→Act→World→Prop}{r1 r2 rest:Code}{l:Nat}{J:Act→World→Prop}(hrest:∀a w,J a w→rest.wp P Q a w)(h:∀R:Code,(∀a w,J a w→R.wp P Q a w)→(r1.seq (r2.seq R)).wp P Q a0 w0):(r1.seq (r2.seq ((Code.label l).seq rest))).wp P Q a0 w0:=
 h _ (fun a w hJ=>wp_seq_k fun K hK=>wp_label (hK _ _ (hrest a w hJ)))
def OeW(w:World)(ps:List TxnQ)(v v4:Value)(wr:World):Prop:=∃ (k:Nat) (rs qs:List TxnQ),k≤ps.length∧Hid (rs=ps.drop k)∧txnK.At w v rs∧z5U v∧Hid (qs.map TxnQ.e=onc [] ((ps.take k).map TxnQ.e))∧wr.ownsRow (w.heap.size+1) 39 4 v4 qs.length (txnK.row qs)∧Hid (∀q∈qs,q∈ps)∧Cts wr w.heap.size (nms (qs.map TxnQ.e))∧Below w.heap.size w wr
def OeJ(w:World)(ps:List TxnQ)(a':Act)(w':World):Prop:=∃ (v v4 u5 u6 u7 u8 u9 u10 u11 u12 u13 u14 u15 u16 u17 u18 u19 u20 u21 u22 u23 u24 u25 u26 u27 u28 u29 u30 u31 u32 u33 u34 u35 u36 u37 u38 u39 u40 u41 u42 u43 u44 u45 u46 u47 u48 u49 u50 u51 u52 u53 u54 u55 u56 u57 u58:Value),a'={tmps:=#[v,undef,.slice none 0 0,.map (some w.heap.size),v4,u5,u6,u7,u8,u9,u10,u11,u12,u13,u14,u15,u16,u17,u18,u19,u20,u21,u22,u23,u24,u25,u26,u27,u28,u29,u30,u31,u32,u33,u34,u35,u36,u37,u38,u39,u40,u41,u42,u43,u44,u45,u46,u47,u48,u49,u50,u51,u52,u53,u54,u55,u56,u57,u58],defers:=[]}∧OeW w ps v v4 w'
def OeM(a':Act)(_:World):Nat:=match a'.tmps.getD 0 undef with| .slice _ n _=>n|_=>0
theorem z8o(v:Value)(ps:List TxnQ)(w:World)(h:txnK.At w v ps)(au:z5U v)(hl:ps.length≤16)(hW:∀p∈ps,1≤p.i∧nmW (nmA (TxnQ.e p))∧nmW (nmB (TxnQ.e p))):
  Calls Tryz.prog 74 #[v] w fun e w'=>∃ (v':Value) (qs:List TxnQ),e=.returned v'∧qs.map TxnQ.e=onc [] (ps.map TxnQ.e)∧qs.length≤16∧w'.ownsRow w.heap.size 39 4 v' qs.length (txnK.row qs)∧(∀q∈qs,txnK.rd w q)∧Below w.heap.size w w':=by
 obtain⟨i0,a8,bi,bj,bl⟩:=info_parts z1p;have be:=@run_makeMap Tryz.prog;go_enter Tryz.func74,Tryz.ntmps74
 go_wp2
 refine z5v 0 (OeJ w ps) OeM rfl ?_ ?_
 ·intro aA;obtain⟨a,cap,rfl⟩:=h.shape;have ay:=Cts.made w;have a6:Below w.heap.size w (w.alloc (.map #[] 0)):=by go_grown
  have bg:(w.alloc (.map #[] 0)).ownsRow (w.heap.size+1) 39 4 (.slice none 0 0) ([]:List TxnQ).length (txnK.row []):=World.ownsRow_nil _ _ _ _;refine q0J aA fun R hR=>?_
  go_wp2
  refine hR _ _ ?_;refine⟨_,_,_,_,_,_,_,_,_,_,_,_,_,_,_,_,_,_,_,_,_,_,_,_,_,_,_,_,_,_,_,_,_,_,_,_,_,_,_,_,_,_,_,_,_,_,_,_,_,_,_,_,_,_,_,_,rfl,0,ps,[],Nat.zero_le _,(rfl:_=_),h,au,(rfl:_=_),bg,fun q hq=>by simp at hq,ay,a6⟩
 ·clear be;rintro a' w' ⟨v,v4,u5,u6,u7,u8,u9,bB,bC,bD,bE,bF,bG,bH,bI,bJ,bK,bL,bM,bN,bO,bP,bQ,bR,bS,bT,bU,bV,bW,bX,bY,bZ,b0,b1,b2,b3,b4,b5,b6,b7,b8,b9,ca,cb,cc,cd,ce,cf,cg,ch,ci,cj,ck,cl,cm,cn,rfl,k0,rs,bn,bv,al,hA,au,aD,aq,aF,aK,a1⟩;obtain⟨a,cap,rfl⟩:=hA.shape;have ad:Hid (rs.length=ps.length-k0):=show _=_ by rw[al.out,List.length_drop]
  obtain⟨aO,bp⟩:rs.length≤cap∧cap≤maxLen:=au;obtain⟨bz,bA,rfl⟩:=z0g aq
  go_wp2
  go_loopw[0,4,15] (fun v0 v j wr=>∃ (i:Nat) (qs:List TxnQ),i≤rs.length∧v0=.slice a rs.length cap∧j=.int .i64 i∧Hid (qs.map TxnQ.e=onc [] ((ps.take (k0+i)).map TxnQ.e))∧wr.ownsRow (w.heap.size+1) 39 4 v qs.length (txnK.row qs)∧Hid (∀q∈qs,q∈ps)∧Cts wr w.heap.size (nms (qs.map TxnQ.e))∧Below w.heap.size w wr) (fun _ _ j _=>rs.length-(intOf j).toNat)
  case atStart=>exact⟨0,bn,Nat.zero_le _,rfl,rfl,aD,aq,aF,aK,a1⟩
  case round=>
   clear aD aq aF aK;obtain⟨i,qs,hi,rfl,rfl,HE,hO,HM,hC,hb⟩:=hrel;obtain⟨sa,sc,rfl⟩:=z0g hO;by_cases bd:i<rs.length
   ·have hk:k0+i<ps.length:=by have:=ad.out;omega
    obtain⟨b,ab,rfl,a7,hc,aU⟩:=hA.cell (by decide) i bd;have aT:rs[i]=ps[k0+i]:=by
     obtain rfl:rs=ps.drop k0:=al.out;simp
    rw[aT]at hc aU;obtain⟨h1,aB,aC⟩:=hW _ (List.getElem_mem hk);have HY:Hid (onc [] ((ps.take (k0+i+1)).map TxnQ.e)=if knw (qs.map TxnQ.e) (TxnQ.e ps[k0+i])then qs.map TxnQ.e else qs.map TxnQ.e++[TxnQ.e ps[k0+i]]):=show _=_ by
     rw[HE.out,List.take_succ_eq_append_getElem hk,List.map_append,z1B];rfl
    have N:∀j x,(txnK.cells ps[k0+i])[j]?=some x→w.cell? ⟨b,ab+i*4+j,none⟩=some x:=hc;have c0:=z8m (N 0 (.int .i64 ps[k0+i].i) rfl) hb;have c1:=z8m (N 1 (.int .i64 ps[k0+i].s) rfl) hb;have c2:=z8m (N 2 (.int .i64 ps[k0+i].q) rfl) hb;have c3:=z8m (N 3 ps[k0+i].va rfl) hb;rw[Nat.add_zero]at c0;have bo:b<wr.heap.size:=Nat.lt_of_lt_of_le a7 hb.size;have aR:ps[k0+i]∈ps:=List.getElem_mem hk;clear hc N aT;generalize ps[k0+i]=p at*;obtain⟨pi,d,pq,bm,c⟩:=p;have hT:actK.At w bm c:=aU;obtain⟨ba,bk,rfl⟩:=hT.shape;dsimp only at c0 c1 c2 c3 h1;obtain⟨A,J⟩:∃A,A=rs.drop (i+1):=⟨_,rfl⟩
    have aQ:A.length=rs.length-(i+1):=by rw[J,List.length_drop]
    obtain⟨ra,rc,bx,aH,O⟩:∃ra rc,(∀u:World,(Instr.slice 25 (.slice (some ⟨b,ab,none⟩) rs.length cap) (some (.int .i64 ((i:Int)+1))) none none).run Tryz.prog u=.ok (.slice ra A.length rc) u)∧txnK.At w (.slice ra A.length rc) A∧z5U (.slice ra A.length rc):=by
     have hd:=hA.dropS (i+1) (by omega) aO (cap-(i+1));rw[←J]at hd;refine⟨_,_,fun u=>?_,hd,⟨by omega,by omega⟩⟩;rw[run_slice_l u 25 (some ⟨b,ab,none⟩) rs.length cap (by kernel_rfl) .i64 ((i:Int)+1) (by omega) (by omega),aQ];rfl
    have af:Hid (A=ps.drop (k0+(i+1))):=show _=_ by rw[J,al.out,List.drop_drop]
    have ae:Hid (A.length<rs.length):=show _<_ by omega
    have HJ:Hid (knw (qs.map TxnQ.e) (TxnQ.e (⟨pi,d,pq,.slice ba c.length bk,c⟩:TxnQ))=true→qs.map TxnQ.e=onc [] ((ps.take (k0+(i+1))).map TxnQ.e)):=fun av=>by
     have h9:=HY.out;rw[av]at h9;rw[←Nat.add_assoc,h9];rfl
    clear J aQ;obtain⟨BX,aJ⟩:∃BX,BX=wr.heap.size:=⟨_,rfl⟩
    have aW:Hid ((nms (qs.map TxnQ.e)).length≤32):=show _≤_ by
     rw[q1Y,HE.out];have:=z6Y ((ps.take (k0+i)).map TxnQ.e) [];simp only[List.length_map,List.length_take,List.length_nil]at this;omega
    have aa:Below wr.heap.size wr ((wr.alloc (.cells #[.int .i64 pi,.int .i64 d,.int .i64 pq,.slice ba c.length bk] 39)).alloc (.cells #[.int .i64 pi,.int .i64 0,.int .i64 0,.int .i64 0,.int .i64 d,.int .i64 pq] 187)):=by go_grown
    have X1:Blk ((wr.alloc (.cells #[.int .i64 pi,.int .i64 d,.int .i64 pq,.slice ba c.length bk] 39)).alloc (.cells #[.int .i64 pi,.int .i64 0,.int .i64 0,.int .i64 0,.int .i64 d,.int .i64 pq] 187)) wr.heap.size 39 #[.int .i64 pi,.int .i64 d,.int .i64 pq,.slice ba c.length bk]:=(Blk.new wr 39 #[.int .i64 pi,.int .i64 d,.int .i64 pq,.slice ba c.length bk]).below (by go_grown);have X2:Blk ((wr.alloc (.cells #[.int .i64 pi,.int .i64 d,.int .i64 pq,.slice ba c.length bk] 39)).alloc (.cells #[.int .i64 pi,.int .i64 0,.int .i64 0,.int .i64 0,.int .i64 d,.int .i64 pq] 187)) (wr.heap.size+1) 187 #[.int .i64 pi,.int .i64 0,.int .i64 0,.int .i64 0,.int .i64 d,.int .i64 pq]:=by
     have:=Blk.new (wr.alloc (.cells #[.int .i64 pi,.int .i64 d,.int .i64 pq,.slice ba c.length bk] 39)) 187 #[.int .i64 pi,.int .i64 0,.int .i64 0,.int .i64 0,.int .i64 d,.int .i64 pq];simpa using this
    have X:=z0a hO aa;have U:Cts ((wr.alloc (.cells #[.int .i64 pi,.int .i64 d,.int .i64 pq,.slice ba c.length bk] 39)).alloc (.cells #[.int .i64 pi,.int .i64 0,.int .i64 0,.int .i64 0,.int .i64 d,.int .i64 pq] 187)) w.heap.size (nms (qs.map TxnQ.e)):=hC.below aa;have z:=hb.trans (aa.mono hb.size)
    go_wp2
    clear aa c0 c1 c2 c3 hb hO hC;rw[←aJ]at X1;generalize (wr.alloc (.cells #[.int .i64 pi,.int .i64 d,.int .i64 pq,.slice ba c.length bk] 39)).alloc (.cells #[.int .i64 pi,.int .i64 0,.int .i64 0,.int .i64 0,.int .i64 d,.int .i64 pq] 187)=Y at*;go_loopw[0,30] (fun v0 j wy=>∃m:Nat,m≤2∧v0=.slice (some ⟨b,ab,none⟩) rs.length cap∧j=.int .i64 m∧Hid (1≤m→(nms (qs.map TxnQ.e)).count (pi,0,0)=0)∧Hid (2≤m→(nms (qs.map TxnQ.e)).count (0,d,pq)=0)∧Below Y.heap.size Y wy) (fun _ j _=>2-(intOf j).toNat)
    case atStart=>exact⟨0,Nat.zero_le _,rfl,rfl,fun h=>by omega,fun h=>by omega,Below.refl _ _⟩
    case round=>
     obtain⟨m,hm,rfl,rfl,HA,HB,y⟩:=hrel;have V:=U.below y;have aw:=fun o=>(V.kept (row:=none) (World.grownBy_alloc wr o none) (by simp)).look aB
     have ax:=fun o=>(V.kept (row:=none) (World.grownBy_alloc wr o none) (by simp)).look aC
     simp only[nmV,nmA,nmB,TxnQ.e]at aw ax;have bt:=nmX0 pi 0 0 0 d pq;have bu:=nmX1 pi 0 0 0 d pq;replace X2:=X2.below y;obtain rfl|rfl|rfl:m=0∨m=1∨m=2:=by omega
     ·by_cases hp:0<(nms (qs.map TxnQ.e)).count (pi,0,0)
      ·have aj:Hid (knw (qs.map TxnQ.e) (TxnQ.e (⟨pi,d,pq,.slice ba c.length bk,c⟩:TxnQ))=true):=(z9n (acc:=qs.map TxnQ.e) (t:=TxnQ.e (⟨pi,d,pq,.slice ba c.length bk,c⟩:TxnQ)) (fun x hx=>by obtain⟨q,hq,rfl⟩:=List.mem_map.1 hx;exact(hW q (HM.out q hq)).1) h1).2 (Or.inl hp)
       go_wp2
       refine wp_goto ?_;refine⟨rfl,⟨_,_,_,_,_,_,_,_,_,_,_,_,_,_,_,_,_,_,_,_,_,_,_,_,_,_,_,_,_,_,_,_,_,_,_,_,_,_,_,_,_,_,_,_,_,_,_,_,_,_,_,_,_,_,_,_,rfl,k0+(i+1),A,qs,by omega,af,aH,O,HJ.out aj.out,z0a (z0a X y) (by go_grown),HM,(U.below y).below (by go_grown),z.trans ((y.alloc y.size _).mono z.size)⟩,?_⟩;exact ae.out
      ·have hz:(nms (qs.map TxnQ.e)).count (pi,0,0)=0:=by omega
       rw[hz]at aw
       go_wp2
       go_roundw
       case rel=>exact⟨1,by omega,rfl,by go_num,fun _=>hz,fun h=>by omega,y.alloc y.size _⟩
       case measure=>simp[intOf]
     ·have T:=HA.out (by omega);by_cases hp:0<(nms (qs.map TxnQ.e)).count (0,d,pq)
      ·have aj:Hid (knw (qs.map TxnQ.e) (TxnQ.e (⟨pi,d,pq,.slice ba c.length bk,c⟩:TxnQ))=true):=(z9n (acc:=qs.map TxnQ.e) (t:=TxnQ.e (⟨pi,d,pq,.slice ba c.length bk,c⟩:TxnQ)) (fun x hx=>by obtain⟨q,hq,rfl⟩:=List.mem_map.1 hx;exact(hW q (HM.out q hq)).1) h1).2 (Or.inr hp)
       go_wp2
       refine wp_goto ?_;refine⟨rfl,⟨_,_,_,_,_,_,_,_,_,_,_,_,_,_,_,_,_,_,_,_,_,_,_,_,_,_,_,_,_,_,_,_,_,_,_,_,_,_,_,_,_,_,_,_,_,_,_,_,_,_,_,_,_,_,_,_,rfl,k0+(i+1),A,qs,by omega,af,aH,O,HJ.out aj.out,z0a (z0a X y) (by go_grown),HM,(U.below y).below (by go_grown),z.trans ((y.alloc y.size _).mono z.size)⟩,?_⟩;exact ae.out
      ·have hz:(nms (qs.map TxnQ.e)).count (0,d,pq)=0:=by omega
       rw[hz]at ax
       go_wp2
       go_roundw
       case rel=>exact⟨2,by omega,rfl,by go_num,fun _=>T,fun _=>hz,y.alloc y.size _⟩
       case measure=>simp[intOf]
     ·have T:=HA.out (by omega);have aI:=HB.out (by omega);obtain⟨x0,x1,x2,x3,x4,x5⟩:=X2.cel6;replace X1:=X1.below y;have aN:=z0a X y;replace z:=z.trans (y.mono z.size)
      go_wp2
      clear x0 x1 x2 x3 x4 x5 X2 aw ax HA HB y U X;have bc:(nms (qs.map TxnQ.e)).length≤32:=aW.out;have aP:knw (qs.map TxnQ.e) (TxnQ.e (⟨pi,d,pq,.slice ba c.length bk,c⟩:TxnQ))=false:=by
       cases av:knw (qs.map TxnQ.e) (TxnQ.e (⟨pi,d,pq,.slice ba c.length bk,c⟩:TxnQ))with
       |false=>rfl
       |true=>
        have h9:=(z9n (acc:=qs.map TxnQ.e) (t:=TxnQ.e (⟨pi,d,pq,.slice ba c.length bk,c⟩:TxnQ)) (fun x hx=>by obtain⟨q,hq,rfl⟩:=List.mem_map.1 hx;exact(hW q (HM.out q hq)).1) h1).1 av;have bq:(nms (qs.map TxnQ.e)).count (nmA (TxnQ.e (⟨pi,d,pq,.slice ba c.length bk,c⟩:TxnQ)))=0:=T;have br:(nms (qs.map TxnQ.e)).count (nmB (TxnQ.e (⟨pi,d,pq,.slice ba c.length bk,c⟩:TxnQ)))=0:=aI;omega
      have aV:Hid ((qs++[(⟨pi,d,pq,.slice ba c.length bk,c⟩:TxnQ)]).map TxnQ.e=onc [] ((ps.take (k0+(i+1))).map TxnQ.e)):=show _=_ by
       have h9:=HY.out;rw[aP]at h9;rw[←Nat.add_assoc,h9];simp
      have aX:Hid (∀q∈qs++[(⟨pi,d,pq,.slice ba c.length bk,c⟩:TxnQ)],q∈ps):=fun q hq=>by
       rcases List.mem_append.1 hq with hq|hq
       ·exact HM.out q hq
       ·rw[List.mem_singleton.1 hq];exact aR
      have aE:Hid (qs.length≤16):=show _≤_ by
       have h9:=bc;rw[q1Y]at h9;simp at h9;omega
      have aY:Hid (nms ((qs++[(⟨pi,d,pq,.slice ba c.length bk,c⟩:TxnQ)]).map TxnQ.e)=nms (qs.map TxnQ.e)++[(pi,0,0),(0,d,pq)]):=show _=_ by
       rw[List.map_append];exact(q3h _ _).trans (by simp[nmA,nmB,TxnQ.e])
      clear aP HY;generalize bw:nms (qs.map TxnQ.e)=ns at*;go_loopw[43] (fun j wz=>∃m:Nat,m≤2∧j=.int .i64 m∧Cts wz w.heap.size (ns++[(pi,0,0),(0,d,pq)].take m)∧wz.ownsRow (w.heap.size+1) 39 4 (.slice sa qs.length sc) qs.length (txnK.row qs)∧Blk wz BX 39 #[.int .i64 pi,.int .i64 d,.int .i64 pq,.slice ba c.length bk]∧Below w.heap.size w wz) (fun j _=>2-(intOf j).toNat)
      case atStart=>exact⟨0,Nat.zero_le _,rfl,by simpa using V,aN,X1,z⟩
      case round=>
       clear V aN X1 z;obtain⟨m,hm,rfl,M,Z,X1,z⟩:=hrel;obtain rfl|rfl|rfl:m=0∨m=1∨m=2:=by omega
       ·simp only[List.take_zero,List.append_nil]at M;have L:Cts (wr.alloc (.cells #[.int .i64 pi,.int .i64 0,.int .i64 0] 186)).drew w.heap.size ns:=(M.kept (row:=none) (World.grownBy_alloc wr (.cells #[.int .i64 pi,.int .i64 0,.int .i64 0] 186) none) (by simp)).drew;have e0:=L.look aB;obtain⟨v0,st,w1,w3,e1,e2,e3,t1,t3,an⟩:=L.inc aB (by omega);have z1:((0:Nat):Int)+1=1:=rfl;simp only[nmV,nmA,TxnQ.e,T,z1]at e0 e1 e2 e3;have ak:Hid (w3.ownsRow (w.heap.size+1) 39 4 (.slice sa qs.length sc) qs.length (txnK.row qs)):=q11 (z9Q (z0a Z (by go_grown))) t3;have am:Hid (Blk w3 BX 39 #[.int .i64 pi,.int .i64 d,.int .i64 pq,.slice ba c.length bk]):=q12 (z9R (X1.below (by go_grown))) t3;have ai:Hid (Below w.heap.size w w3):=z8n (z6s (z.alloc z.size _)) t3 (Nat.le_refl _);clear t1 t3
        go_wp2
        go_region
        go_wp2
        go_roundw
        case rel=>exact⟨1,by omega,by go_num,an,ak.out,am.out,ai.out⟩
        case measure=>simp[intOf]
       ·have bf:(ns++[(pi,0,0)]).count (0,d,pq)=0:=by
         rw[List.count_append,aI];have:[(pi,(0:Int),(0:Int))].count (0,d,pq)=0:=List.count_eq_zero.2 (by simp;omega);omega
        have aL:Cts wr w.heap.size (ns++[(pi,0,0)]):=M;have L:Cts (wr.alloc (.cells #[.int .i64 0,.int .i64 d,.int .i64 pq] 186)).drew w.heap.size (ns++[(pi,0,0)]):=(aL.kept (row:=none) (World.grownBy_alloc wr (.cells #[.int .i64 0,.int .i64 d,.int .i64 pq] 186) none) (by simp)).drew;have e0:=L.look aC;obtain⟨v0,st,w1,w3,e1,e2,e3,t1,t3,an⟩:=L.inc aC (by simp;omega);have z1:((0:Nat):Int)+1=1:=rfl;have ao:Cts w3 w.heap.size (ns++[(pi,0,0),(0,d,pq)]):=by
         have e9:ns++[(pi,0,0)]++[(0,d,pq)]=ns++[(pi,0,0),(0,d,pq)]:=by simp
         rw[←e9];exact an
        simp only[nmV,nmB,TxnQ.e,bf,z1]at e0 e1 e2 e3;have ak:Hid (w3.ownsRow (w.heap.size+1) 39 4 (.slice sa qs.length sc) qs.length (txnK.row qs)):=q11 (z9Q (z0a Z (by go_grown))) t3;have am:Hid (Blk w3 BX 39 #[.int .i64 pi,.int .i64 d,.int .i64 pq,.slice ba c.length bk]):=q12 (z9R (X1.below (by go_grown))) t3;have ai:Hid (Below w.heap.size w w3):=z8n (z6s (z.alloc z.size _)) t3 (Nat.le_refl _);clear t1 t3
        go_wp2
        go_region
        go_wp2
        go_roundw
        case rel=>exact⟨2,by omega,by go_num,ao,ak.out,am.out,ai.out⟩
        case measure=>simp[intOf]
       ·rw[aJ]at X1;obtain⟨y0,y1,y2,y3⟩:=X1.cel4;have I:Below wr.heap.size wr (wr.alloc (.cells #[.int .i64 pi,.int .i64 d,.int .i64 pq,.slice ba c.length bk] 39)):=by go_grown
        have W:=z0a Z I;have ap:Cts (wr.alloc (.cells #[.int .i64 pi,.int .i64 d,.int .i64 pq,.slice ba c.length bk] 39)) w.heap.size (ns++[(pi,0,0),(0,d,pq)]):=Cts.below (w:=wr) M I;have ar:=z.trans (I.mono z.size);have aG:Hid (qs.length≤16):=aE;clear Z M z X1 I
        go_wp2_with (at_builtin;refine wpList_append_own_at _ rfl _ _ 25 rfl (w.heap.size+1) 39 i0 (.agg #[.int .i64 0,.int .i64 0,.int .i64 0,.slice none 0 0]) 4 48 Tryz.underlying25 a8 bi bj bl rfl (by decide) _ qs.length (txnK.row qs) rfl W ⟨wr.heap.size,0,none⟩ 1 1 [.int .i64 pi,.int .i64 d,.int .i64 pq,.slice ba c.length bk] rfl rfl ?c1 ?c2 ?c3 ?c4 ?c5 ?_)
        all_goals try(case c1=>intro j u hj;match j,hj with|0,hj=>simp at hj;subst hj;simp[Addr.add]|1,hj=>simp at hj;subst hj;simp[Addr.add]|2,hj=>simp at hj;subst hj;simp[Addr.add]|3,hj=>simp at hj;subst hj;simp[Addr.add])
        all_goals try(case c2=>intro u hu;simp at hu;rcases hu with rfl|rfl|rfl|rfl<;>rfl)
        all_goals try(case c3=>have:=aG.out;unfold maxLen;omega)
        all_goals try(case c4=>have:=aG.out;omega)
        all_goals try(case c5=>have:=ap.lt;omega)
        intro v' w5 ag C aS aZ;have ah:txnK.row (qs++[(⟨pi,d,pq,.slice ba c.length bk,c⟩:TxnQ)])=txnK.row qs++[.int .i64 pi,.int .i64 d,.int .i64 pq,.slice ba c.length bk]:=by simp[Kind.row];rfl
        have az:w5.ownsRow (w.heap.size+1) 39 4 v' (qs++[(⟨pi,d,pq,.slice ba c.length bk,c⟩:TxnQ)]).length (txnK.row (qs++[(⟨pi,d,pq,.slice ba c.length bk,c⟩:TxnQ)])):=by rw[ah,List.length_append];exact ag
        have a2:Below w.heap.size w w5:=ar.grown C ar.size (fun j hj=>by have:=(W.lt j hj).1;omega);have ao:Cts w5 w.heap.size (nms ((qs++[(⟨pi,d,pq,.slice ba c.length bk,c⟩:TxnQ)]).map TxnQ.e)):=by
         rw[aY.out];exact ap.kept C (fun e=>by have:=(W.lt _ e.symm).1;omega)
        clear ag C aS aZ ah W ap ar
        go_wp2
        go_roundw
        case rel=>exact⟨i+1,qs++[(⟨pi,d,pq,.slice ba c.length bk,c⟩:TxnQ)],by omega,rfl,by go_num,aV,az,aX,ao,a2⟩
        case measure=>simp[intOf];omega
   ·have bb:i=rs.length:=by omega
    subst bb;have hE:=HE.out;rw[List.take_of_length_le (by have:=ad.out;omega)]at hE;have hL:qs.length≤16:=by
     have e9:qs.length=(qs.map TxnQ.e).length:=by simp
     have:=z6Y (ps.map TxnQ.e) [];rw[e9,hE];simp only[List.length_map,List.length_nil]at this;omega
    have hR:∀q∈qs,txnK.rd w q:=fun q hq=>by
     obtain⟨a9,c9,e9,bs,bh⟩:=h;exact bh q (HM.out q hq)
    have aM:=q5A hO (Nat.le_succ w.heap.size)
    go_wp2
    first|go_ret|(simp only[Exit.jump];go_ret)
    first|exact⟨_,qs,rfl,hE,hL,aM,hR,hb⟩|exact⟨_,rfl,qs,hE,hL,aM,hR,hb⟩
end
theorem q4J{w:World}{base e size n:Nat}{v:Value}{xs:List Value}(h:w.ownsRow base e size v n xs):z5U v:=by
 rcases h.2 with⟨rfl,_⟩|⟨g,c,cur,rfl,_,_,h1,h2,_⟩
 ·exact⟨Nat.le_refl _,by decide⟩
 ·exact⟨h1,h2⟩
theorem q5Z{bs:List TxnD}(h:batF bs=0):∀t∈bs,t.F=0:=by
 unfold batF at h;split at h
 ·exact absurd h (by decide)
 ·split at h
  ·rename_i h1 h2
   exact q3g h2
  ·rename_i h1 h2
   exact absurd h h2
theorem q50{x:InstE}(h:insF x=0):∀t∈x.batch,t.F=0:=by
 obtain⟨h0,_⟩:=z2a h;obtain⟨_,_,_,hb0,hb1⟩:=z1q h0
 cases hh:x.has with
 |false=>
  rw[hb0 hh];intro t ht;simp at ht
 |true=>exact q5Z (hb1 hh)
theorem q5B{ds:List InstE}(h:∀x∈ds,insF x=0):∀t∈z3R ds,t.F=0:=by
 intro t ht;unfold z3R at ht;obtain⟨x,hx,ht⟩:=List.mem_flatMap.1 ht;split at ht
 ·exact q50 (h x hx) t ht
 ·simp at ht
theorem z2Q(n:Int)(h1:-1000≤n)(h2:n≤1000):(Lit.int .i64 n).wf=true:=by
 have e1:IntKind.i64.min=-9223372036854775808:=by decide
 have e2:IntKind.i64.max=9223372036854775807:=by decide
 show(decide (IntKind.i64.min≤n) && decide (n≤IntKind.i64.max))=true;rw[e1,e2,Bool.and_eq_true,decide_eq_true_eq,decide_eq_true_eq];omega
theorem q51{t:TxnD}(h:t.F=0):1≤t.id∧nmW (nmA t)∧nmW (nmB t):=by
 obtain⟨⟨h1,h2⟩,⟨h3,h4⟩,⟨h5,h6⟩,_⟩:=z3x h;exact⟨h1,⟨z2Q t.id (by omega) (by omega),z2Q 0 (by decide) (by decide),z2Q 0 (by decide) (by decide)⟩,⟨z2Q 0 (by decide) (by decide),z2Q t.session (by omega) (by omega),z2Q t.seq (by omega) (by omega)⟩⟩
theorem q3P{qs:List TxnQ}(h:∀t∈qs.map TxnQ.e,t.F=0):nmL TxnQ.n qs≤4*qs.length:=by
 induction qs with
 |nil=>simp[nmL]
 |cons q r ih=>
  have h1:(TxnQ.e q).F=0:=h _ (by simp);have h2:=(z3x h1).2.2.2.1.2;have h3:q.acts.length≤4:=h2;have:=ih (fun t ht=>h t (by simp only[List.map_cons,List.mem_cons];exact Or.inr ht));simp only[nmL,List.map_cons,List.sum_cons,List.length_cons,TxnQ.n]at this⊢;omega
theorem q13{ds:List InstE}(h:∀x∈ds,insF x=0):(z3R ds).length≤4*ds.length:=by
 unfold z3R;induction ds with
 |nil=>simp
 |cons x r ih=>
  have h1:=h x (by simp);have:=ih (fun y hy=>h y (List.mem_cons_of_mem _ hy));simp only[List.flatMap_cons,List.length_append,List.length_cons];have h2:x.batch.length≤4:=by
   obtain⟨h0,_⟩:=z2a h1;obtain⟨_,_,_,hb0,hb1⟩:=z1q h0
   cases hh:x.has with
   |false=>rw[hb0 hh];simp
   |true=>
    have h3:=hb1 hh;unfold batF at h3;split at h3
    ·exact absurd h3 (by decide)
    ·omega
  split
  ·omega
  ·simp only[List.length_nil];omega
theorem q14:(Tryz.prog.info? 50).map (·.size)=some 2:=by kernel_rfl
theorem q3i{ds:List InstE}(h:∀x∈ds,insF x=0)(m:Nat):∀t∈defL ds m,t.F=0:=by
 intro t ht;rcases z9a _ _ t ht with ht|ht
 ·simp at ht
 ·exact q5B (fun x hx=>h x (List.mem_of_mem_take hx)) t ht
theorem z1P(v:Value)(ps:List InstQ)(n:Int)(w:World)(hG:Rul w)(h:instK.At w v ps)(ao:z5U v)(hl:(ps.length+nmL InstQ.n ps)≤1048576):
  Calls Tryz.prog 32 #[v,.int .i64 n] w fun e w'=>∃ (v':Value) (qs:List TxnQ),e=.returned (.agg #[.int .i64 (dfC (ps.map InstQ.e) n),v'])∧qs.map TxnQ.e=dfT (ps.map InstQ.e) n∧txnK.Own w' v' qs∧(txnK.fp v' qs).Nodup∧(∀k∈txnK.fp v' qs,w.heap.size≤k)∧Below w.heap.size w w':=by
 have hB:Below w.heap.size w (w.alloc (.cells #[.int .i64 0,.slice none 0 0] 50)):=by go_grown
 have Rb:=Blk.new w 50 #[.int .i64 0,.slice none 0 0];have ah:=z1U v ps _ (hG.below hB) (h.below hB) hl;have HO:Hid (ordF (ps.map InstQ.e)=0→ps.length≤4∧∀q∈ps,insF (InstQ.e q)=0):=fun h0=>by
  have:=((z2c _).1 h0).1;rw[List.length_map]at this;exact⟨this.2,fun q hq=>z2d h0 _ (List.mem_map.2 ⟨q,hq,rfl⟩)⟩
 have HV:Hid (ordF (ps.map InstQ.e)=0→diV (ps.map InstQ.e)=(decN (ps.map InstQ.e):Int)):=fun h0=>if_pos h0
 have hw:=z7h (ps.map InstQ.e) n;have d:Hid _:=hw;clear hw;have ax:decN (ps.map InstQ.e)≤ps.length:=by simpa using z6X (ps.map InstQ.e)
 obtain⟨a,cap,rfl⟩:=h.shape;obtain⟨ap,aq⟩:ps.length≤cap∧cap≤maxLen:=ao;generalize dfC (ps.map InstQ.e) n=D at*;generalize dfT (ps.map InstQ.e) n=O at*;generalize ordF (ps.map InstQ.e)=C at*;generalize diV (ps.map InstQ.e)=V at*;generalize decN (ps.map InstQ.e)=M at*;go_enter Tryz.func32,Tryz.ntmps32
 go_wp2_with fail
 refine ah.mono ?_;rintro e w1 ⟨rfl,N⟩;replace hB:=hB.trans (N.mono hB.size);replace Rb:=Rb.below N;clear ah N;have U:Below w1.heap.size w1 (w1.alloc (.cells #[.int .i64 C,.int .i64 V] 53)):=by go_grown
 have Cb:=Blk.new w1 53 #[.int .i64 C,.int .i64 V];replace hB:=hB.trans (U.mono hB.size);have aA:w.heap.size<w1.heap.size:=Rb.lt;replace Rb:=Rb.below U;clear U;by_cases hC:C=0
 ·have hv:=HV.out hC;obtain⟨h4,I⟩:=HO.out hC;have ai:∀p∈ps,insF (InstQ.e p)=0:=I;subst hC;subst hv;clear HV HO;have c1:=Cb.cell 1 _ rfl;have c0:=Cb.cell 0 _ rfl;have aj:=fun w=>z0G n 0 (M:Int) w
  go_wp2_with fail
  clear c0 c1;generalize w1.alloc (.cells #[.int .i64 0,.int .i64 M] 53)=X at*;refine(aj X).mono ?_;rintro e w2 ⟨rfl,ab⟩;replace ab:=ab.symm;subst ab;by_cases c:0≤n∧n≤(M:Int)
  ·have Y:inW n 0 (M:Int)=true:=by unfold inW;rw[decide_eq_true c.1,decide_eq_true c.2];rfl
   obtain⟨m,rfl⟩:∃m:Nat,n=(m:Int):=⟨n.toNat,by omega⟩
   have hm:m≤ps.length:=by omega
   have E0:Hid (D=0∧O=defL (ps.map InstQ.e) m):=by
    rcases d.out with⟨h0,_⟩|⟨_,h0,_⟩|⟨_,_,h0,h1⟩
    ·exact absurd rfl h0
    ·exact absurd c h0
    ·exact⟨h0,by simpa using h1⟩
   clear d;rw[Y];have hT:=h.takeK m hm;have ak:=z9m (.slice a m cap) (ps.take m) X (hG.below hB) (hT.below hB) (fun p hp=>I p (List.mem_of_mem_take hp)) (by rw[List.length_take];omega) (by have:=z3t InstQ.n ps m;rw[List.length_take];omega);have ay:(0:Int)≤(m:Int):=by omega
   have az:(m:Int)≤(cap:Int):=by omega
   have ar:m≤cap:=by omega
   have ae:Hid (∀ t∈z3R ((ps.take m).map InstQ.e),t.F=0):=q5B (fun x hx=>by
    obtain⟨p,hp,rfl⟩:=List.mem_map.1 hx;exact I p (List.mem_of_mem_take hp))
   have ad:Hid (onc [] (z3R ((ps.take m).map InstQ.e))=defL (ps.map InstQ.e) m):=show _=_ by unfold defL;rw[List.map_take]
   clear aj I ai hT;have aw:w.heap.size<X.heap.size:=Rb.lt
   go_wp2_with fail
   refine ak.mono ?_;rintro e w3 ⟨v3,q3,rfl,e3,l3,o3,al,z⟩;replace Rb:=Rb.below z;have J:=hB.trans (z.mono hB.size);have F3:∀t∈q3.map TxnQ.e,t.F=0:=fun t ht=>ae.out t (by rw[←e3];exact ht)
   have af:txnK.At w3 v3 q3:=Kind.at_of_row o3 (fun q hq=>txnK.rd_below (al q hq) z);have aa:=z8o v3 q3 w3 af (q4J o3) l3 (fun p hp=>q51 (t:=TxnQ.e p) (F3 _ (List.mem_map.2 ⟨p,hp,rfl⟩)));rw[e3,ad.out]at aa;obtain⟨a3,c3,rfl⟩:=z0g o3;clear ak o3 al af ae ad z hB
   go_wp2_with fail
   refine aa.mono ?_;rintro e w4 ⟨v4,q4,rfl,e4,l4,o4,am,A⟩;replace Rb:=Rb.below A;have L:=J.trans (A.mono J.size);have F4:∀t∈q4.map TxnQ.e,t.F=0:=fun t ht=>by
    rw[e4]at ht;rcases z9a _ _ t ht with ht|ht
    ·simp at ht
    ·exact F3 t (by rw[e3,List.map_take];exact ht)
   have ag:txnK.At w4 v4 q4:=Kind.at_of_row o4 (fun q hq=>txnK.rd_below (am q hq) A);have W:=z2e v4 q4 w4 ag (fun p hp=>by
    have:=(z3x (F4 _ (List.mem_map.2 ⟨p,hp,rfl⟩))).2.2.2.1.1;have h9:1≤p.acts.length:=this;omega) (by have:=q3P F4;omega)
   rw[e4]at W;obtain⟨a4,c4,rfl⟩:=z0g o4;have av:w.heap.size<w4.heap.size:=Rb.lt;clear aa o4 am ag A J F3 F4 e3 e4
   go_wp2_with fail
   refine W.mono ?_;rintro e w5 ⟨v5,q5,rfl,e5,o5,n5,g5,T⟩;replace Rb:=Rb.below T;have an:=L.trans (T.mono L.size);obtain⟨a5,c5,rfl⟩:=o5.shape;have E5:Hid (q5.map TxnQ.e=O):=show _=_ by rw[E0.out.2];exact e5
   have ED:Hid (D=0):=E0.out.1;clear W T L e5 E0;have KF:=z0p an (Nat.le_refl w.heap.size) #[.int .i64 0,.slice a5 q5.length c5];have O5:Hid _:=o5.out (z1F _ w.heap.size #[.int .i64 0,.slice a5 q5.length c5]) (fun k hk=>by have:=g5 k hk;simp only[List.mem_singleton];omega);have g6:∀k∈txnK.fp (.slice a5 q5.length c5) q5,w.heap.size≤k:=fun k hk=>by have:=g5 k hk;omega
   have Rr:=Rb.row #[.int .i64 0,.slice a5 q5.length c5]
   go_wp2_with (first|(refine z0K (by kernel_rfl) 50 _ _ rfl _ #[.int .i64 0,.slice a5 q5.length c5] rfl rfl 50 _ Rb q14 rfl (by simp[Value.oneCell']) ?_))
   obtain⟨y0,y1⟩:=Rr.cel2;refine bodyPost_ret (v:=.agg #[.int .i64 0,.slice a5 q5.length c5]) (by simp[results,Tryz.results32,go_sem,y0,y1]) rfl ?_;exact⟨_,q5,by rw[ED.out],E5.out,O5.out,n5,g6,KF⟩
  ·have Y:inW n 0 (M:Int)=false:=by
    unfold inW;rw[Bool.and_eq_false_iff,decide_eq_false_iff_not,decide_eq_false_iff_not];omega
   have E0:Hid (D=3∧O=[]):=by
    rcases d.out with⟨h0,_⟩|⟨_,_,h0,h1⟩|⟨_,h0,_⟩
    ·exact absurd rfl h0
    ·exact⟨h0,h1⟩
    ·exact absurd h0 c
   clear d;rw[Y];obtain⟨Z,y⟩:=Kind.own_nil (K:=txnK) (X.setRow w.heap.size #[.int .i64 3,.slice none 0 0]);have KF:=z0p hB (Nat.le_refl w.heap.size) #[.int .i64 3,.slice none 0 0];have Rr:=Rb.row #[.int .i64 3,.slice none 0 0]
   go_wp2_with (first|(refine z0K (by kernel_rfl) 50 _ _ rfl _ #[.int .i64 3,.slice none 0 0] rfl rfl 50 _ Rb q14 rfl (by simp[Value.oneCell']) ?_))
   obtain⟨y0,y1⟩:=Rr.cel2;refine bodyPost_ret (v:=.agg #[.int .i64 3,.slice none 0 0]) (by simp[results,Tryz.results32,go_sem,y0,y1]) rfl ?_;exact⟨_,[],by rw[E0.out.1],by rw[E0.out.2];rfl,Z,by rw[y];simp,by rw[y];simp,KF⟩
 ·have E0:Hid (D=C∧O=[]):=by
   rcases d.out with⟨_,h0,h1⟩|⟨h0,_⟩|⟨h0,_⟩
   ·exact⟨h0,h1⟩
   ·exact absurd h0 hC
   ·exact absurd h0 hC
  clear d HV HO;have au:(C !=0)=true:=by simpa using hC
  obtain⟨c0,c1⟩:=Cb.cel2;obtain⟨Z,y⟩:=Kind.own_nil (K:=txnK) ((w1.alloc (.cells #[.int .i64 C,.int .i64 V] 53)).setRow w.heap.size #[.int .i64 C,.slice none 0 0]);have KF:=z0p hB (Nat.le_refl w.heap.size) #[.int .i64 C,.slice none 0 0];have Rr:=Rb.row #[.int .i64 C,.slice none 0 0]
  go_wp2_with (first|(refine z0K (by kernel_rfl) 50 _ _ rfl _ #[.int .i64 C,.slice none 0 0] rfl rfl 50 _ Rb q14 rfl (by simp[Value.oneCell']) ?_))
  obtain⟨y0,y1⟩:=Rr.cel2;refine bodyPost_ret (v:=.agg #[.int .i64 C,.slice none 0 0]) (by simp[results,Tryz.results32,go_sem,y0,y1]) rfl ?_;exact⟨_,[],by rw[E0.out.1],by rw[E0.out.2];rfl,Z,by rw[y];simp,by rw[y];simp,KF⟩
theorem q52{ps:List InstQ}{n:Int}{qs:List TxnQ}(h:qs.map TxnQ.e=dfT (ps.map InstQ.e) n)(_:ps.length+nmL InstQ.n ps≤1048576):qs.length+nmL TxnQ.n qs≤1048576:=by
 rcases z7h (ps.map InstQ.e) n with⟨_,_,e⟩|⟨_,_,_,e⟩|⟨h0,h1,_,e⟩
 ·rw[e]at h;have:qs=[]:=List.map_eq_nil_iff.1 h;subst this;simp[nmL]
 ·rw[e]at h;have:qs=[]:=List.map_eq_nil_iff.1 h;subst this;simp[nmL]
 ·rw[e]at h;have hF:∀t∈qs.map TxnQ.e,t.F=0:=fun t ht=>q3i (z2d h0) _ t (by rw[←h];exact ht)
  have h4:=q3P hF;have h16:qs.length≤16:=by
   have e1:qs.length=(qs.map TxnQ.e).length:=by simp
   rw[e1,h];have:=z6Y (z3R ((ps.map InstQ.e).take n.toNat)) [];have h5:=q13 (ds:=(ps.map InstQ.e).take n.toNat) (fun x hx=>z2d h0 x (List.mem_of_mem_take hx));have h6:=((z2c _).1 h0).1.2;rw[List.length_take]at h5;unfold defL;simp only[List.length_nil]at this;omega
  omega
section
variable {ops:Array Oper} {rest:List Oper} {op:Oper} {a:Act} {w:World} {Q:Exit→Act→World→Prop}
theorem q3Q(hw:Region.wanted op (yielded ops a.tmps)=true)(ty:TypeId)(x y:Operand)(ho:op.op=.store ty x y)
  (g o:Nat) (cells:Array Value) (hx:a.eval x=.pointer (some ⟨g,o,none⟩)) (hy:a.eval y=.agg cells)
  (t:TypeId) (old:Array Value) (hg:Blk w g t old) (hi:(Tryz.prog.info? ty).map (·.size)=some cells.size)
  (hold:o+cells.size≤old.size) (h1:cells.all (·.oneCell')=true)
  (h:wpList Tryz.prog ops Q rest (a.put op.dst undef) (w.setCells g o cells.toList)):wpList Tryz.prog ops Q (op::rest) a w:=by
 simp only[wpList];rw[if_pos hw];refine Or.inl (wp_store_mid ty x y ho g o cells hx hy ?_ hi h1 h);intro j hj;refine⟨?_,hg.frozen _⟩;rw[hg.cell (o+j) (old[o+j]'(by omega)) (by rw[Array.getElem?_eq_getElem])];rfl
end
theorem Blk.mid5{w:World}{b:Nat}{t:TypeId}{c0 c1 d0 d1 d2 d3 d4:Value}(h:Blk w b t #[c0,c1,d0,d1,d2,d3,d4])(x0 x1 x2 x3 x4:Value):Blk (w.setCells b 2 [x0,x1,x2,x3,x4]) b t #[c0,c1,x0,x1,x2,x3,x4]:=by
 have:=((((h.set 2 x0).set 3 x1).set 4 x2).set 5 x3).set 6 x4;simpa only[World.setCells,pjE]using this
theorem z9S(w:World)(b:Nat)(x0 x1 x2 x3 x4:Value):Out [b] w (w.setCells b 2 [x0,x1,x2,x3,x4]):=
 (((((Out.refl [b] w).set (b:=b) (j:=2) (u:=x0) (by simp)).set (b:=b) (j:=3) (u:=x1) (by simp)).set (b:=b) (j:=4) (u:=x2) (by simp)).set (b:=b) (j:=5) (u:=x3) (by simp)).set (b:=b) (j:=6) (u:=x4) (by simp)
theorem z1w(w:World)(g:Nat)(cs:Array Value):Out [g] w (w.setRow g cs):=
 ⟨rfl,rfl,rfl,by rw[setRow_size];exact Nat.le_refl _,fun k _ hn=>setRow_other w g k cs (by simpa using hn)⟩
section
variable {P:Type} {K:Kind P} {w:World} {ps:List P}
theorem Kind.row_take(ps:List P)(m:Nat)(hm:m≤ps.length):K.row (ps.take m)=(K.row ps).take (m*K.size):=by
 have er:K.row ps=K.row (ps.take m)++K.row (ps.drop m):=by
  unfold Kind.row;rw[←List.flatMap_append,List.take_append_drop]
 have hl:(K.row (ps.take m)).length=m*K.size:=by rw[Kind.row_length,List.length_take,Nat.min_eq_left hm]
 rw[er,←hl,List.take_left]
theorem Kind.Own.takeO{a:Option Addr}{n cap:Nat}(h:K.Own w (.slice a n cap) ps)(m:Nat)(hm:m≤ps.length):K.Own w (.slice a m cap) (ps.take m):=by
 have hlen:(ps.take m).length=m:=by rw[List.length_take,Nat.min_eq_left hm]
 refine⟨⟨by rw[Kind.row_length],?_⟩,fun p hp=>h.2 p (List.mem_of_mem_take hp)⟩;rcases h.1.2 with⟨e,h0⟩|⟨g,c,cur,e,hb,hh,h1,h2,h3,h4⟩
 ·simp only[Value.slice.injEq]at e;obtain⟨rfl,rfl,rfl⟩:=e;left;rw[hlen];have:m=0:=by omega
  subst this;exact⟨rfl,rfl⟩
 ·simp only[Value.slice.injEq]at e;obtain⟨rfl,rfl,rfl⟩:=e;right;refine⟨g,cap,cur,by rw[hlen],hb,hh,by rw[hlen];omega,h2,h3,?_⟩;rw[hlen,Kind.row_take ps m hm,←h4,List.take_take,Nat.min_eq_left (Nat.mul_le_mul_right _ hm)]
theorem Kind.Own.far{g n cap:Nat}(h:K.Own w (.slice (some ⟨g,0,none⟩) n cap) ps)(hnd:∀p∈ps,g∉K.foot p)(j:Nat)(u:Value)(hj:ps.length*K.size≤j):K.Own (w.setCell ⟨g,j,none⟩ u) (.slice (some ⟨g,0,none⟩) n cap) ps:=by
 refine⟨?_,fun p hp=>K.own_out (h.2 p hp) (Out.setCell w g j u) (fun k hk e=>hnd p hp (by simp only[List.mem_singleton]at e;rw[←e];exact hk))⟩;obtain⟨a,c,e⟩:=h.shape;simp only[Value.slice.injEq]at e;obtain⟨_,rfl,_⟩:=e;have:=(h.1.stored j u).1;rw[List.set_eq_of_length_le (by rw[Kind.row_length];exact hj)]at this;exact this
theorem Kind.Own.fars{g n cap:Nat}(hnd:∀p∈ps,g∉K.foot p):∀ (vs:List Value) (j:Nat) (w:World),K.Own w (.slice (some ⟨g,0,none⟩) n cap) ps→ps.length*K.size≤j→K.Own (w.setCells g j vs) (.slice (some ⟨g,0,none⟩) n cap) ps
 |[],_,_,h,_=>h
 |v::r,j,w,h,hj=>Kind.Own.fars hnd r (j+1) _ (h.far hnd j v hj) (by omega)
theorem Out.setCells(g:Nat):∀ (vs:List Value) (j:Nat) (w:World),Out [g] w (w.setCells g j vs)
 |[],_,w=>Out.refl _ w
 |v::r,j,w=>(Out.setCell w g j v).trans (Out.setCells g r (j+1) _)
theorem Kind.fp_take(a:Option Addr)(n n' cap:Nat)(m:Nat):∀k∈K.fp (.slice a n cap) (ps.take m),k∈K.fp (.slice a n' cap) ps:=by
 intro k hk;simp only[Kind.fp,List.mem_append,List.mem_flatMap]at hk⊢;rcases hk with hk|⟨p,hp,hk⟩
 ·left;have e:blk (.slice a n' cap)=blk (.slice a n cap):=by cases a<;>rfl
  rw[e];exact hk
 ·exact Or.inr ⟨p,List.mem_of_mem_take hp,hk⟩
theorem Kind.nodup_take{a:Option Addr}{n n' cap:Nat}(h:(K.fp (.slice a n' cap) ps).Nodup)(m:Nat):(K.fp (.slice a n cap) (ps.take m)).Nodup:=by
 have hs:List.Sublist ((ps.take m).flatMap K.foot) (ps.flatMap K.foot):=by
  have e:ps.flatMap K.foot=(ps.take m).flatMap K.foot++(ps.drop m).flatMap K.foot:=by rw[←List.flatMap_append,List.take_append_drop]
  rw[e];exact List.sublist_append_left _ _
 have hb:blk (.slice a n cap)=blk (.slice a n' cap):=by cases a<;>rfl
 simp only[Kind.fp]at h⊢;rw[hb];exact h.sublist (List.Sublist.append (List.Sublist.refl _) hs)
theorem z9o(t e ty:TypeId)(z:Value)(zc:List Value)(ht:Tryz.prog.underlying t=some (.slice e))(hv:∀w,(zeroValue e).run Tryz.prog w=.ok z w)(hz:z.cells=zc.toArray)(b o n c:Nat)(hn:0<n)(h1:∀v∈(Builtin.zeroCells z.cells n).toList,v.oneCell'=true)
  (hc:∀j,j<(Builtin.zeroCells z.cells n).toList.length→(w.cell? ⟨b,o+j,none⟩).isSome=true) (hf:∀j,j<(Builtin.zeroCells z.cells n).toList.length→w.frozen? ⟨b,o+j,none⟩=false):
  (Builtin.clear_ #[t] ty #[.slice (some ⟨b,o,none⟩) n c]).run Tryz.prog w=.ok (.tuple #[]) (w.setCells b o (Builtin.zeroCells z.cells n).toList):=by
 have hst:=run_storeCells_cells (P:=Tryz.prog) b o (Builtin.zeroCells z.cells n).toList 0 w (by simpa using hc) (by simpa using hf) h1;simp only[Nat.add_zero]at hst;obtain⟨m,rfl⟩:∃m,n=m+1:=⟨n-1,by omega⟩
 simp[Builtin.clear_,run_underlying ht,hv,hst]
end
end Go.Proofs.YtlkpdgjnhkjpjaaGreatDoor

import Derived.Test.YtlkpdgjnhkjpjaaGreatDoorSUAT
import Derived.WideKeyEntry
set_option linter.unusedVariables false
set_option linter.unusedSimpArgs false
set_option maxRecDepth 100000
set_option maxHeartbeats 8000000
namespace Go.Proofs.YtlkpdgjnhkjpjaaGreatDoor
open Go.RowKit Go.BigFrame
open TxnQ renaming e->Va
open InstQ renaming e->Vb
open Nat renaming le_refl->Vc,zero_le->Vd
open IntKind renaming i64->S
open Value renaming int->G,slice->Sl
open Go.Proofs.Tryz renaming prog->It
open Go.Proofs.Tryz
section
open Go.Maps Go.WideShapes Go.MapKept Go.ChangeMaps Go.ChangeShapes Go.WideElems
theorem q2F{H:Type}{P:Program}{w:World}{t k e:TypeId}{R:Value→Option (DataW H × List MemPlace)}{b n:Nat}{D:DataW H}(h:w.ownsMap P k R b n D)(L:Go.WideMaps.KeyLaw P k)
  (ht:P.underlying t=some (.map k e)) {z:Value} (hz:∀u:World,(zeroValue e).run P u=.ok z u) {zd:DataW H} {zp:List MemPlace} (ai:R z=some (zd,zp)) (hn:n<maxLen)
  {key:Value} {kl:Lit} (x:keyOf P k key=some kl):
  ∃ (v0:Value) (st:Nat) (w1:World) (D1:DataW H),(Instr.mapEntry t (.map (some b)) key).run P w=.ok (.tuple #[v0,goInt st]) w1∧w.mapTurned w1 b∧
   w1.ownsMap P k R b (n+1) D1∧D1.atKey kl zd=D.atKey kl zd∧
   ∀ (w2:World) (J:Value) (d:DataW H) (ps:List MemPlace),w2.heap[b]?=w1.heap[b]?→R J=some (d,ps)→
    ∃w3,(Instr.entryStore t (.map (some b)) (goInt st) J).run P w2=.ok () w3∧w3.ownsMap P k R b (n+1) (D.put kl d)∧w2.mapTurned w3 b:=by
 have K:Keyed P k:=Keyed.of_law L;have h0:=h;obtain⟨es,c,hb,F,hs,hD⟩:=h;obtain⟨v0,st,I,A,hr,hv,ag⟩:=entry_then_store L ht hz hb F x;have T:(setBlock w b (.map I A)).heap[b]?=some (.map I A):=heap_setBlock_same hb _;have V:∃D1,(setBlock w b (.map I A)).ownsMap P k R b (n+1) D1∧D1.atKey kl zd=D.atKey kl zd:=by
  rcases K.find w x es.toList F.keys with⟨h1,h2⟩|⟨j,e0,h1,h2,h3⟩
  ·obtain⟨w',hrun,E,_⟩:=h0.store K ht hn x ai;have e1:(Instr.mapEntry t (.map (some b)) key).run P w=.ok (.tuple #[z,goInt c]) (setBlock w b (.map (es.push ⟨key,z,c⟩) (c+1))):=by
    simp[Instr.mapEntry,run_underlying ht,MapKept.run_getObj_map hb,K.check w false x,h1,hz,MapKept.run_setObj_map _ hb,Result.andThen,setBlock]
   have e2:(Instr.mapUpdate t (.map (some b)) key z).run P w=.ok () (setBlock w b (.map (es.push ⟨key,z,c⟩) (c+1))):=by
    simp[Instr.mapUpdate,run_underlying ht,MapKept.run_getObj_map hb,K.check w false x,h1,MapKept.run_setObj_map _ hb,Result.andThen,setBlock]
   rw[e1]at hr;rw[e2]at hrun;simp only[Result.ok.injEq,true_and]at hrun hr;rw[←hr.2,hrun];refine⟨_,E,?_⟩;rw[atKey_put_same h0.isMap (K.key x)];have ah:(zeroValue e).run P w=.ok z w:=hz w;rcases fit_look false K ht ah hb F x with⟨_,_,Y⟩|⟨e0,y,ab,aa,_⟩
   ·rw[hD,Y zd]
   ·exact absurd aa (h2 e0 ab)
  ·have hj:es[j]?=some e0:=by simpa using h2
   have af:es.modify j (fun e=>{e with key:=key})=es:=by
    apply Array.ext';rw[Array.toList_modify,modify_eq_set _ _ _ _ h2];have:({e0 with key:=key}:MapEntry)=e0:=by rw[←h3]
    rw[this];exact set_self _ _ _ h2
   have e1:(Instr.mapEntry t (.map (some b)) key).run P w=.ok (.tuple #[e0.val,goInt e0.born]) (setBlock w b (.map es c)):=by
    simp[Instr.mapEntry,run_underlying ht,MapKept.run_getObj_map hb,K.check w false x,h1,hj,h3,L.stays w x,af,MapKept.run_setObj_map _ hb,Result.andThen,setBlock]
   rw[e1]at hr;simp only[Result.ok.injEq]at hr;rw[←hr.2];exact⟨D,⟨es,c,heap_setBlock_same hb _,F,by omega,hD⟩,rfl⟩
 obtain⟨D1,O,U⟩:=V;refine⟨v0,st,_,D1,hr,⟨es,c,I,A,hb,rfl⟩,O,U,fun w2 J d ps h2 W=>?_⟩;have N:=h2.trans T;obtain⟨M,C,ad,ae⟩:=ag w2 J N;obtain⟨w',hrun,E,_⟩:=h0.store K ht hn x W;rw[ae]at hrun;simp only[Result.ok.injEq,true_and]at hrun;refine⟨_,ad,?_,⟨I,A,M,C,N,rfl⟩⟩;rw[←hrun]at E;obtain⟨X,cx,Z,rest⟩:=E;have e3:(setBlock w b (.map M C)).heap[b]?=(setBlock w2 b (.map M C)).heap[b]?:=by
  rw[heap_setBlock_same hb,heap_setBlock_same N]
 exact⟨X,cx,e3▸Z,rest⟩
end
section
open Go.Maps
def Cts(w:World)(b:Nat)(ns:List Nm):Prop:=∃D:DataW Unit,w.ownsMap It 186 (plainElem It 2) b ns.length D∧Cnt D ns
theorem q6z:Go.WideMaps.KeyLaw It 186:=deep_law_laid q6v (m:=2) (by omega) q6w (by kernel_rfl) q4G
theorem q2G(u:World):(zeroValue 2).run It u=.ok (G S 0) u:=by
 kernel_rfl
theorem Cts.made(w:World):Cts (w.alloc (.map #[] 0)) w.heap.size []:=⟨_,World.ownsMap_made w _ _ _,Cnt.none⟩
theorem Cts.lt{w:World}{b:Nat}{ns:List Nm}(h:Cts w b ns):b<w.heap.size:=by
 obtain⟨D,h,_⟩:=h;exact h.lt
theorem Cts.kept{w w':World}{b:Nat}{ns:List Nm}{row:Option Nat}(h:Cts w b ns)(hg:w.grownBy w' row)(hne:some b≠row):Cts w' b ns:=by
 obtain⟨D,h,hc⟩:=h;exact⟨D,h.kept hg hne,hc⟩
theorem Cts.look{w:World}{b:Nat}{ns:List Nm}(h:Cts w b ns){x:Nm}(hx:nmW x):(Instr.lookup 184 (.map (some b)) (nmV x) false).run It w=.ok (G S (ns.count x)) w:=by
 obtain⟨D,h,hc⟩:=h;obtain⟨c,hr,hat,_⟩:=h.lookup_int lawNm Tryz.underlying184 Tryz.underlying2 (q2G w) (z4k hx);rw[hc.2 x hx]at hat;simp only[DataW.lit.injEq,Lit.int.injEq,true_and]at hat;rw[hr,hat]
theorem Cts.inc{w:World}{b:Nat}{ns:List Nm}(h:Cts w b ns){x:Nm}(hx:nmW x)(hl:ns.length<1000):
  ∃ (v0:Value) (st:Nat) (w1 w3:World),(Instr.mapEntry 184 (.map (some b)) (nmV x)).run It w=.ok (.tuple #[v0,G S st]) w1∧
   (Instr.lookup 184 (.map (some b)) (nmV x) false).run It w1=.ok (G S (ns.count x)) w1∧
   (Instr.entryStore 184 (.map (some b)) (G S st) (G S ((ns.count x:Int)+1))).run It w1=.ok () w3∧w.mapTurned w1 b∧w.mapTurned w3 b∧Cts w3 b (ns++[x]):=by
 obtain⟨D,h,hc⟩:=h;have M:ns.count x≤ns.length:=List.count_le_length;have w0:(Lit.int .i64 0).wf=true:=by decide
 have wc:(Lit.int .i64 ((ns.count x:Int)+1)).wf=true:=WalkArith.wf_i64 (by omega);obtain⟨v0,st,w1,D1,hr,z,A,y,J⟩:=q2F h q6z Tryz.underlying184 q2G (plainElem_int Tryz.underlying2 w0) (by unfold maxLen;omega) (z4k hx);obtain⟨w3,E,C,L⟩:=J w1 _ _ _ rfl (plainElem_int Tryz.underlying2 wc);obtain⟨c,I,d,_⟩:=A.lookup_int lawNm Tryz.underlying184 Tryz.underlying2 (q2G w1) (z4k hx);rw[y,hc.2 x hx]at d;simp only[DataW.lit.injEq,Lit.int.injEq,true_and]at d;refine⟨v0,st,w1,w3,hr,by rw[I,d],E,z,z.trans L,⟨_,?_,hc.put hx⟩⟩;rw[List.length_append];exact C
theorem Cts.below{w w':World}{b:Nat}{ns:List Nm}(h:Cts w b ns)(hb:Below w.heap.size w w'):Cts w' b ns:=by
 obtain⟨D,h,hc⟩:=h;have hlt:=h.lt;obtain⟨es,clock,h1,r⟩:=h;exact⟨D,⟨es,clock,(hb.block b hlt).trans h1,r⟩,hc⟩
theorem Cts.drew{w:World}{b:Nat}{ns:List Nm}(h:Cts w b ns):Cts w.drew b ns:=h
theorem z6G{B:Nat}{w w':World}(h:Below B w w'):Below B w w'.drew:=⟨h.os,h.tape,h.output,h.size,h.block⟩
theorem q0p{w:World}{base e size n:Nat}{v:Value}{xs:List Value}(h:w.ownsRow base e size v n xs):w.drew.ownsRow base e size v n xs:=h
theorem q0q{w:World}{b:Nat}{t:TypeId}{cs:Array Value}(h:Blk w b t cs):Blk w.drew b t cs:=h
theorem q2H{w w':World}{M e size n:Nat}{v:Value}{xs:List Value}(h:w.ownsRow (M+1) e size v n xs)(ht:w.mapTurned w' M):w'.ownsRow (M+1) e size v n xs:=by
 refine h.kept ht.grown ?_
 cases hv:v.ownBlock with
 |none=>exact Or.inl rfl
 |some k=>
  have:=(h.lt k hv).1;exact Or.inr (fun e=>by simp at e;omega)
theorem q2I{w w':World}{b M:Nat}{t:TypeId}{cs:Array Value}(h:Blk w b t cs)(ht:w.mapTurned w' M):Blk w' b t cs:=by
 refine h.grown ht.grown (fun e=>?_);obtain⟨es,clock,es',clock',hb,_⟩:=ht;simp only[Option.some.injEq]at e;subst e;have h2:w.heap[b]?=some (.cells cs t):=h;rw[h2]at hb
 cases hb
theorem z8O{B M:Nat}{w0 w w':World}(h:Below B w0 w)(ht:w.mapTurned w' M)(hM:B≤M):Below B w0 w':=by
 have hg:=ht.grown;obtain⟨es,clock,es',clock',hb,rfl⟩:=ht;have hl:M<w.heap.size:=(Array.getElem?_eq_some_iff.1 hb).1;refine⟨hg.os.trans h.os,hg.tape.trans h.tape,hg.output.trans h.output,Nat.le_trans h.size hg.size,fun k hk=>(hg.block k (by omega) (fun e=>?_)).trans (h.block k hk)⟩;simp only[Option.some.injEq]at e;omega
theorem q6A{w:World}{base base' e size n:Nat}{v:Value}{xs:List Value}(h:w.ownsRow base e size v n xs)(hb:base'≤base):w.ownsRow base' e size v n xs:=by
 refine⟨h.1,?_⟩;rcases h.2 with h2|⟨g,cap,cur,hv,hg,hh,r⟩
 ·exact Or.inl h2
 ·exact Or.inr ⟨g,cap,cur,hv,by omega,hh,r⟩
theorem nmX0(a b c d e f:Int)(w:World):(Instr.index 187 (.agg #[G S a,G S b,G S c,G S d,G S e,G S f]) (G S 0)).run It w=.ok (.agg #[G S a,G S b,G S c]) w:=by kernel_rfl
theorem nmX1(a b c d e f:Int)(w:World):(Instr.index 187 (.agg #[G S a,G S b,G S c,G S d,G S e,G S f]) (G S 1)).run It w=.ok (.agg #[G S d,G S e,G S f]) w:=by kernel_rfl
theorem z5D{P:Program}{a:Act}{w:World}{Q:Exit→Act→World→Prop}{c X:Code}(l:Nat)(J:Act→World→Prop)(μ:Act→World→Nat)(hf:findLabel c l=some (Code.skip.seq X))
  (first:(∀a w,J a w→X.wp P (Exit.jump l J Q) a w)→c.wp P (Exit.jump l J Q) a w)
  (pass:∀a w,J a w→X.wp P (Exit.jump l (fun a' w'=>J a' w'∧μ a' w'<μ a w) Q) a w):(Code.scope c).wp P Q a w:=by
 refine wp_scope_jumps l J μ hf (first fun a w h=>?_) (fun a w h=>wp_seq_k fun K hK=>wp_skip (hK _ _ (pass a w h)));refine wp_mono (pass a w h) (fun e a w he=>?_)
 cases e with
 |goto l'=>exact⟨he.1,he.2.1⟩
 |normal=>exact he
 |exit id=>exact he
 |ret=>exact he
 |panic ch=>exact he
 |outgrown=>exact he
theorem q1k{P:Program}{a0:Act}{w0:World}{Q:Exit→Act→World→Prop}{r1 r2 rest:Code}{l:Nat}{J:Act→World→Prop}(hrest:∀a w,J a w→rest.wp P Q a w)(h:∀R:Code,(∀a w,J a w→R.wp P Q a w)→(r1.seq (r2.seq R)).wp P Q a0 w0):(r1.seq (r2.seq ((Code.label l).seq rest))).wp P Q a0 w0:=
 h _ (fun a w hJ=>wp_seq_k fun K hK=>wp_label (hK _ _ (hrest a w hJ)))
def OeW(w:World)(ps:List TxnQ)(v v4:Value)(wr:World):Prop:=∃ (k:Nat) (rs qs:List TxnQ),k≤ps.length∧Hid (rs=ps.drop k)∧txnK.At w v rs∧z1L v∧Hid (qs.map Va=onc [] ((ps.take k).map Va))∧wr.ownsRow (w.heap.size+1) 39 4 v4 qs.length (txnK.row qs)∧Hid (∀q∈qs,q∈ps)∧Cts wr w.heap.size (nms (qs.map Va))∧Below w.heap.size w wr
def OeJ(w:World)(ps:List TxnQ)(a':Act)(w':World):Prop:=∃ (v v4 u5 u6 u7 u8 u9 u10 u11 u12 u13 u14 u15 u16 u17 u18 u19 u20 u21 u22 u23 u24 u25 u26 u27 u28 u29 u30 u31 u32 u33 u34 u35 u36 u37 u38 u39 u40 u41 u42 u43 u44 u45 u46 u47 u48 u49 u50 u51 u52 u53 u54 u55 u56 u57 u58:Value),a'={tmps:=#[v,undef,Sl none 0 0,.map (some w.heap.size),v4,u5,u6,u7,u8,u9,u10,u11,u12,u13,u14,u15,u16,u17,u18,u19,u20,u21,u22,u23,u24,u25,u26,u27,u28,u29,u30,u31,u32,u33,u34,u35,u36,u37,u38,u39,u40,u41,u42,u43,u44,u45,u46,u47,u48,u49,u50,u51,u52,u53,u54,u55,u56,u57,u58],defers:=[]}∧OeW w ps v v4 w'
def OeM(a':Act)(_:World):Nat:=match a'.tmps.getD 0 undef with| Sl _ n _=>n|_=>0
theorem z8P(v:Value)(ps:List TxnQ)(w:World)(h:txnK.At w v ps)(aq:z1L v)(hl:ps.length≤16)(hW:∀p∈ps,1≤p.i∧nmW (nmA (Va p))∧nmW (nmB (Va p))):
  Calls It 74 #[v] w fun e w'=>∃ (v':Value) (qs:List TxnQ),e=.returned v'∧qs.map Va=onc [] (ps.map Va)∧qs.length≤16∧w'.ownsRow w.heap.size 39 4 v' qs.length (txnK.row qs)∧(∀q∈qs,txnK.rd w q)∧Below w.heap.size w w':=by
 obtain⟨i0,a6,bg,bh,bi⟩:=info_parts z1f;have bc:=@run_makeMap It;go_enter func74,ntmps74
 go_wp2
 refine z5D 0 (OeJ w ps) OeM rfl ?_ ?_
 ·intro ay;obtain⟨a,cap,rfl⟩:=h.shape;have aw:=Cts.made w;have a1:Below w.heap.size w (w.alloc (.map #[] 0)):=by go_grown
  have be:(w.alloc (.map #[] 0)).ownsRow (w.heap.size+1) 39 4 (Sl none 0 0) ([]:List TxnQ).length (txnK.row []):=World.ownsRow_nil _ _ _ _;refine q1k ay fun R hR=>?_
  go_wp2
  refine hR _ _ ?_;refine⟨_,_,_,_,_,_,_,_,_,_,_,_,_,_,_,_,_,_,_,_,_,_,_,_,_,_,_,_,_,_,_,_,_,_,_,_,_,_,_,_,_,_,_,_,_,_,_,_,_,_,_,_,_,_,_,_,rfl,0,ps,[],Vd _,(rfl:_=_),h,aq,(rfl:_=_),be,fun q hq=>by simp at hq,aw,a1⟩
 ·clear bc;rintro a' w' ⟨v,v4,u5,u6,u7,u8,u9,bz,bA,bB,bC,bD,bE,bF,bG,bH,bI,bJ,bK,bL,bM,bN,bO,bP,bQ,bR,bS,bT,bU,bV,bW,bX,bY,bZ,b0,b1,b2,b3,b4,b5,b6,b7,b8,b9,ca,cb,cc,cd,ce,cf,cg,ch,ci,cj,ck,cl,rfl,k0,rs,bl,bt,aj,hA,aq,aB,ao,aD,aI,aY⟩;obtain⟨a,cap,rfl⟩:=hA.shape;have aa:Hid (rs.length=ps.length-k0):=show _=_ by rw[aj.out,List.length_drop]
  obtain⟨aM,bn⟩:rs.length≤cap∧cap≤maxLen:=aq;obtain⟨bw,bx,rfl⟩:=z0g ao
  go_wp2
  go_loopw[0,4,15] (fun v0 v j wr=>∃ (i:Nat) (qs:List TxnQ),i≤rs.length∧v0=Sl a rs.length cap∧j=G S i∧Hid (qs.map Va=onc [] ((ps.take (k0+i)).map Va))∧wr.ownsRow (w.heap.size+1) 39 4 v qs.length (txnK.row qs)∧Hid (∀q∈qs,q∈ps)∧Cts wr w.heap.size (nms (qs.map Va))∧Below w.heap.size w wr) (fun _ _ j _=>rs.length-(intOf j).toNat)
  case atStart=>exact⟨0,bl,Vd _,rfl,rfl,aB,ao,aD,aI,aY⟩
  case round=>
   clear aB ao aD aI;obtain⟨i,qs,hi,rfl,rfl,HE,hO,HM,hC,hb⟩:=hrel;obtain⟨sa,sc,rfl⟩:=z0g hO;by_cases bb:i<rs.length
   ·have hk:k0+i<ps.length:=by have:=aa.out;omega
    obtain⟨b,Z,rfl,a2,hc,aS⟩:=hA.cell (by decide) i bb;have aR:rs[i]=ps[k0+i]:=by
     obtain rfl:rs=ps.drop k0:=aj.out;simp
    rw[aR]at hc aS;obtain⟨h1,az,aA⟩:=hW _ (List.getElem_mem hk);have HY:Hid (onc [] ((ps.take (k0+i+1)).map Va)=if knw (qs.map Va) (Va ps[k0+i])then qs.map Va else qs.map Va++[Va ps[k0+i]]):=show _=_ by
     rw[HE.out,List.take_succ_eq_append_getElem hk,List.map_append,z1O];rfl
    have L:∀j x,(txnK.cells ps[k0+i])[j]?=some x→w.cell? ⟨b,Z+i*4+j,none⟩=some x:=hc;have c0:=z8N (L 0 (G S ps[k0+i].i) rfl) hb;have c1:=z8N (L 1 (G S ps[k0+i].s) rfl) hb;have c2:=z8N (L 2 (G S ps[k0+i].q) rfl) hb;have c3:=z8N (L 3 ps[k0+i].va rfl) hb;rw[Nat.add_zero]at c0;have bm:b<wr.heap.size:=Nat.lt_of_lt_of_le a2 hb.size;have aP:ps[k0+i]∈ps:=List.getElem_mem hk;clear hc L aR;generalize ps[k0+i]=p at*;obtain⟨pi,d,pq,bj,c⟩:=p;have hT:actK.At w bj c:=aS;obtain⟨ba,bk,rfl⟩:=hT.shape;dsimp only at c0 c1 c2 c3 h1;obtain⟨A,E⟩:∃A,A=rs.drop (i+1):=⟨_,rfl⟩
    have aO:A.length=rs.length-(i+1):=by rw[E,List.length_drop]
    obtain⟨ra,rc,bv,aF,M⟩:∃ra rc,(∀u:World,(Instr.slice 25 (Sl (some ⟨b,Z,none⟩) rs.length cap) (some (G S ((i:Int)+1))) none none).run It u=.ok (Sl ra A.length rc) u)∧txnK.At w (Sl ra A.length rc) A∧z1L (Sl ra A.length rc):=by
     have hd:=hA.dropS (i+1) (by omega) aM (cap-(i+1));rw[←E]at hd;refine⟨_,_,fun u=>?_,hd,⟨by omega,by omega⟩⟩;rw[run_slice_l u 25 (some ⟨b,Z,none⟩) rs.length cap (by kernel_rfl) .i64 ((i:Int)+1) (by omega) (by omega),aO];rfl
    have ad:Hid (A=ps.drop (k0+(i+1))):=show _=_ by rw[E,aj.out,List.drop_drop]
    have ab:Hid (A.length<rs.length):=show _<_ by omega
    have HJ:Hid (knw (qs.map Va) (Va (⟨pi,d,pq,Sl ba c.length bk,c⟩:TxnQ))=true→qs.map Va=onc [] ((ps.take (k0+(i+1))).map Va)):=fun ar=>by
     have h9:=HY.out;rw[ar]at h9;rw[←Nat.add_assoc,h9];rfl
    clear E aO;obtain⟨BX,aH⟩:∃BX,BX=wr.heap.size:=⟨_,rfl⟩
    have aU:Hid ((nms (qs.map Va)).length≤32):=show _≤_ by
     rw[q2E,HE.out];have:=z7f ((ps.take (k0+i)).map Va) [];simp only[List.length_map,List.length_take,List.length_nil]at this;omega
    have X:Below wr.heap.size wr ((wr.alloc (.cells #[G S pi,G S d,G S pq,Sl ba c.length bk] 39)).alloc (.cells #[G S pi,G S 0,G S 0,G S 0,G S d,G S pq] 187)):=by go_grown
    have X1:Blk ((wr.alloc (.cells #[G S pi,G S d,G S pq,Sl ba c.length bk] 39)).alloc (.cells #[G S pi,G S 0,G S 0,G S 0,G S d,G S pq] 187)) wr.heap.size 39 #[G S pi,G S d,G S pq,Sl ba c.length bk]:=(Blk.new wr 39 #[G S pi,G S d,G S pq,Sl ba c.length bk]).below (by go_grown);have X2:Blk ((wr.alloc (.cells #[G S pi,G S d,G S pq,Sl ba c.length bk] 39)).alloc (.cells #[G S pi,G S 0,G S 0,G S 0,G S d,G S pq] 187)) (wr.heap.size+1) 187 #[G S pi,G S 0,G S 0,G S 0,G S d,G S pq]:=by
     have:=Blk.new (wr.alloc (.cells #[G S pi,G S d,G S pq,Sl ba c.length bk] 39)) 187 #[G S pi,G S 0,G S 0,G S 0,G S d,G S pq];simpa using this
    have V:=z0b hO X;have O:Cts ((wr.alloc (.cells #[G S pi,G S d,G S pq,Sl ba c.length bk] 39)).alloc (.cells #[G S pi,G S 0,G S 0,G S 0,G S d,G S pq] 187)) w.heap.size (nms (qs.map Va)):=hC.below X;have z:=hb.trans (X.mono hb.size)
    go_wp2
    clear X c0 c1 c2 c3 hb hO hC;rw[←aH]at X1;generalize (wr.alloc (.cells #[G S pi,G S d,G S pq,Sl ba c.length bk] 39)).alloc (.cells #[G S pi,G S 0,G S 0,G S 0,G S d,G S pq] 187)=Y at*;go_loopw[0,30] (fun v0 j wy=>∃m:Nat,m≤2∧v0=Sl (some ⟨b,Z,none⟩) rs.length cap∧j=G S m∧Hid (1≤m→(nms (qs.map Va)).count (pi,0,0)=0)∧Hid (2≤m→(nms (qs.map Va)).count (0,d,pq)=0)∧Below Y.heap.size Y wy) (fun _ j _=>2-(intOf j).toNat)
    case atStart=>exact⟨0,Vd _,rfl,rfl,fun h=>by omega,fun h=>by omega,Below.refl _ _⟩
    case round=>
     obtain⟨m,hm,rfl,rfl,HA,HB,y⟩:=hrel;have T:=O.below y;have au:=fun o=>(T.kept (row:=none) (World.grownBy_alloc wr o none) (by simp)).look az
     have av:=fun o=>(T.kept (row:=none) (World.grownBy_alloc wr o none) (by simp)).look aA
     simp only[nmV,nmA,nmB,Va]at au av;have br:=nmX0 pi 0 0 0 d pq;have bs:=nmX1 pi 0 0 0 d pq;replace X2:=X2.below y;obtain rfl|rfl|rfl:m=0∨m=1∨m=2:=by omega
     ·by_cases hp:0<(nms (qs.map Va)).count (pi,0,0)
      ·have ah:Hid (knw (qs.map Va) (Va (⟨pi,d,pq,Sl ba c.length bk,c⟩:TxnQ))=true):=(z9T (acc:=qs.map Va) (t:=Va (⟨pi,d,pq,Sl ba c.length bk,c⟩:TxnQ)) (fun x hx=>by obtain⟨q,hq,rfl⟩:=List.mem_map.1 hx;exact(hW q (HM.out q hq)).1) h1).2 (Or.inl hp)
       go_wp2
       refine wp_goto ?_;refine⟨rfl,⟨_,_,_,_,_,_,_,_,_,_,_,_,_,_,_,_,_,_,_,_,_,_,_,_,_,_,_,_,_,_,_,_,_,_,_,_,_,_,_,_,_,_,_,_,_,_,_,_,_,_,_,_,_,_,_,_,rfl,k0+(i+1),A,qs,by omega,ad,aF,M,HJ.out ah.out,z0b (z0b V y) (by go_grown),HM,(O.below y).below (by go_grown),z.trans ((y.alloc y.size _).mono z.size)⟩,?_⟩;exact ab.out
      ·have hz:(nms (qs.map Va)).count (pi,0,0)=0:=by omega
       rw[hz]at au
       go_wp2
       go_roundw
       case rel=>exact⟨1,by omega,rfl,by go_num,fun _=>hz,fun h=>by omega,y.alloc y.size _⟩
       case measure=>simp[intOf]
     ·have N:=HA.out (by omega);by_cases hp:0<(nms (qs.map Va)).count (0,d,pq)
      ·have ah:Hid (knw (qs.map Va) (Va (⟨pi,d,pq,Sl ba c.length bk,c⟩:TxnQ))=true):=(z9T (acc:=qs.map Va) (t:=Va (⟨pi,d,pq,Sl ba c.length bk,c⟩:TxnQ)) (fun x hx=>by obtain⟨q,hq,rfl⟩:=List.mem_map.1 hx;exact(hW q (HM.out q hq)).1) h1).2 (Or.inr hp)
       go_wp2
       refine wp_goto ?_;refine⟨rfl,⟨_,_,_,_,_,_,_,_,_,_,_,_,_,_,_,_,_,_,_,_,_,_,_,_,_,_,_,_,_,_,_,_,_,_,_,_,_,_,_,_,_,_,_,_,_,_,_,_,_,_,_,_,_,_,_,_,rfl,k0+(i+1),A,qs,by omega,ad,aF,M,HJ.out ah.out,z0b (z0b V y) (by go_grown),HM,(O.below y).below (by go_grown),z.trans ((y.alloc y.size _).mono z.size)⟩,?_⟩;exact ab.out
      ·have hz:(nms (qs.map Va)).count (0,d,pq)=0:=by omega
       rw[hz]at av
       go_wp2
       go_roundw
       case rel=>exact⟨2,by omega,rfl,by go_num,fun _=>N,fun _=>hz,y.alloc y.size _⟩
       case measure=>simp[intOf]
     ·have N:=HA.out (by omega);have aG:=HB.out (by omega);obtain⟨x0,x1,x2,x3,x4,x5⟩:=X2.cel6;replace X1:=X1.below y;have aL:=z0b V y;replace z:=z.trans (y.mono z.size)
      go_wp2
      clear x0 x1 x2 x3 x4 x5 X2 au av HA HB y O V;have a8:(nms (qs.map Va)).length≤32:=aU.out;have aN:knw (qs.map Va) (Va (⟨pi,d,pq,Sl ba c.length bk,c⟩:TxnQ))=false:=by
       cases ar:knw (qs.map Va) (Va (⟨pi,d,pq,Sl ba c.length bk,c⟩:TxnQ))with
       |false=>rfl
       |true=>
        have h9:=(z9T (acc:=qs.map Va) (t:=Va (⟨pi,d,pq,Sl ba c.length bk,c⟩:TxnQ)) (fun x hx=>by obtain⟨q,hq,rfl⟩:=List.mem_map.1 hx;exact(hW q (HM.out q hq)).1) h1).1 ar;have bo:(nms (qs.map Va)).count (nmA (Va (⟨pi,d,pq,Sl ba c.length bk,c⟩:TxnQ)))=0:=N;have bp:(nms (qs.map Va)).count (nmB (Va (⟨pi,d,pq,Sl ba c.length bk,c⟩:TxnQ)))=0:=aG;omega
      have aT:Hid ((qs++[(⟨pi,d,pq,Sl ba c.length bk,c⟩:TxnQ)]).map Va=onc [] ((ps.take (k0+(i+1))).map Va)):=show _=_ by
       have h9:=HY.out;rw[aN]at h9;rw[←Nat.add_assoc,h9];simp
      have aV:Hid (∀q∈qs++[(⟨pi,d,pq,Sl ba c.length bk,c⟩:TxnQ)],q∈ps):=fun q hq=>by
       rcases List.mem_append.1 hq with hq|hq
       ·exact HM.out q hq
       ·rw[List.mem_singleton.1 hq];exact aP
      have aC:Hid (qs.length≤16):=show _≤_ by
       have h9:=a8;rw[q2E]at h9;simp at h9;omega
      have aW:Hid (nms ((qs++[(⟨pi,d,pq,Sl ba c.length bk,c⟩:TxnQ)]).map Va)=nms (qs.map Va)++[(pi,0,0),(0,d,pq)]):=show _=_ by
       rw[List.map_append];exact(q37 _ _).trans (by simp[nmA,nmB,Va])
      clear aN HY;generalize bu:nms (qs.map Va)=ns at*;go_loopw[43] (fun j wz=>∃m:Nat,m≤2∧j=G S m∧Cts wz w.heap.size (ns++[(pi,0,0),(0,d,pq)].take m)∧wz.ownsRow (w.heap.size+1) 39 4 (Sl sa qs.length sc) qs.length (txnK.row qs)∧Blk wz BX 39 #[G S pi,G S d,G S pq,Sl ba c.length bk]∧Below w.heap.size w wz) (fun j _=>2-(intOf j).toNat)
      case atStart=>exact⟨0,Vd _,rfl,by simpa using T,aL,X1,z⟩
      case round=>
       clear T aL X1 z;obtain⟨m,hm,rfl,J,W,X1,z⟩:=hrel;obtain rfl|rfl|rfl:m=0∨m=1∨m=2:=by omega
       ·simp only[List.take_zero,List.append_nil]at J;have I:Cts (wr.alloc (.cells #[G S pi,G S 0,G S 0] 186)).drew w.heap.size ns:=(J.kept (row:=none) (World.grownBy_alloc wr (.cells #[G S pi,G S 0,G S 0] 186) none) (by simp)).drew;have e0:=I.look az;obtain⟨v0,st,w1,w3,e1,e2,e3,t1,t3,al⟩:=I.inc az (by omega);have z1:((0:Nat):Int)+1=1:=rfl;simp only[nmV,nmA,Va,N,z1]at e0 e1 e2 e3;have ai:Hid (w3.ownsRow (w.heap.size+1) 39 4 (Sl sa qs.length sc) qs.length (txnK.row qs)):=q2H (q0p (z0b W (by go_grown))) t3;have ak:Hid (Blk w3 BX 39 #[G S pi,G S d,G S pq,Sl ba c.length bk]):=q2I (q0q (X1.below (by go_grown))) t3;have ag:Hid (Below w.heap.size w w3):=z8O (z6G (z.alloc z.size _)) t3 (Vc _);clear t1 t3
        go_wp2
        go_region
        go_wp2
        go_roundw
        case rel=>exact⟨1,by omega,by go_num,al,ai.out,ak.out,ag.out⟩
        case measure=>simp[intOf]
       ·have bd:(ns++[(pi,0,0)]).count (0,d,pq)=0:=by
         rw[List.count_append,aG];have:[(pi,(0:Int),(0:Int))].count (0,d,pq)=0:=List.count_eq_zero.2 (by simp;omega);omega
        have aJ:Cts wr w.heap.size (ns++[(pi,0,0)]):=J;have I:Cts (wr.alloc (.cells #[G S 0,G S d,G S pq] 186)).drew w.heap.size (ns++[(pi,0,0)]):=(aJ.kept (row:=none) (World.grownBy_alloc wr (.cells #[G S 0,G S d,G S pq] 186) none) (by simp)).drew;have e0:=I.look aA;obtain⟨v0,st,w1,w3,e1,e2,e3,t1,t3,al⟩:=I.inc aA (by simp;omega);have z1:((0:Nat):Int)+1=1:=rfl;have am:Cts w3 w.heap.size (ns++[(pi,0,0),(0,d,pq)]):=by
         have e9:ns++[(pi,0,0)]++[(0,d,pq)]=ns++[(pi,0,0),(0,d,pq)]:=by simp
         rw[←e9];exact al
        simp only[nmV,nmB,Va,bd,z1]at e0 e1 e2 e3;have ai:Hid (w3.ownsRow (w.heap.size+1) 39 4 (Sl sa qs.length sc) qs.length (txnK.row qs)):=q2H (q0p (z0b W (by go_grown))) t3;have ak:Hid (Blk w3 BX 39 #[G S pi,G S d,G S pq,Sl ba c.length bk]):=q2I (q0q (X1.below (by go_grown))) t3;have ag:Hid (Below w.heap.size w w3):=z8O (z6G (z.alloc z.size _)) t3 (Vc _);clear t1 t3
        go_wp2
        go_region
        go_wp2
        go_roundw
        case rel=>exact⟨2,by omega,by go_num,am,ai.out,ak.out,ag.out⟩
        case measure=>simp[intOf]
       ·rw[aH]at X1;obtain⟨y0,y1,y2,y3⟩:=X1.cel4;have D:Below wr.heap.size wr (wr.alloc (.cells #[G S pi,G S d,G S pq,Sl ba c.length bk] 39)):=by go_grown
        have U:=z0b W D;have an:Cts (wr.alloc (.cells #[G S pi,G S d,G S pq,Sl ba c.length bk] 39)) w.heap.size (ns++[(pi,0,0),(0,d,pq)]):=Cts.below (w:=wr) J D;have ap:=z.trans (D.mono z.size);have aE:Hid (qs.length≤16):=aC;clear W J z X1 D
        go_wp2_with (at_builtin;refine wpList_append_own_at _ rfl _ _ 25 rfl (w.heap.size+1) 39 i0 (.agg #[G S 0,G S 0,G S 0,Sl none 0 0]) 4 48 Tryz.underlying25 a6 bg bh bi rfl (by decide) _ qs.length (txnK.row qs) rfl U ⟨wr.heap.size,0,none⟩ 1 1 [G S pi,G S d,G S pq,Sl ba c.length bk] rfl rfl ?c1 ?c2 ?c3 ?c4 ?c5 ?_)
        all_goals try(case c1=>intro j u hj;match j,hj with|0,hj=>simp at hj;subst hj;simp[Addr.add]|1,hj=>simp at hj;subst hj;simp[Addr.add]|2,hj=>simp at hj;subst hj;simp[Addr.add]|3,hj=>simp at hj;subst hj;simp[Addr.add])
        all_goals try(case c2=>intro u hu;simp at hu;rcases hu with rfl|rfl|rfl|rfl<;>rfl)
        all_goals try(case c3=>have:=aE.out;unfold maxLen;omega)
        all_goals try(case c4=>have:=aE.out;omega)
        all_goals try(case c5=>have:=an.lt;omega)
        intro v' w5 ae C aQ aX;have af:txnK.row (qs++[(⟨pi,d,pq,Sl ba c.length bk,c⟩:TxnQ)])=txnK.row qs++[G S pi,G S d,G S pq,Sl ba c.length bk]:=by simp[Kind.row];rfl
        have ax:w5.ownsRow (w.heap.size+1) 39 4 v' (qs++[(⟨pi,d,pq,Sl ba c.length bk,c⟩:TxnQ)]).length (txnK.row (qs++[(⟨pi,d,pq,Sl ba c.length bk,c⟩:TxnQ)])):=by rw[af,List.length_append];exact ae
        have aZ:Below w.heap.size w w5:=ap.grown C ap.size (fun j hj=>by have:=(U.lt j hj).1;omega);have am:Cts w5 w.heap.size (nms ((qs++[(⟨pi,d,pq,Sl ba c.length bk,c⟩:TxnQ)]).map Va)):=by
         rw[aW.out];exact an.kept C (fun e=>by have:=(U.lt _ e.symm).1;omega)
        clear ae C aQ aX af U an ap
        go_wp2
        go_roundw
        case rel=>exact⟨i+1,qs++[(⟨pi,d,pq,Sl ba c.length bk,c⟩:TxnQ)],by omega,rfl,by go_num,aT,ax,aV,am,aZ⟩
        case measure=>simp[intOf];omega
   ·have a7:i=rs.length:=by omega
    subst a7;have hE:=HE.out;rw[List.take_of_length_le (by have:=aa.out;omega)]at hE;have hL:qs.length≤16:=by
     have e9:qs.length=(qs.map Va).length:=by simp
     have:=z7f (ps.map Va) [];rw[e9,hE];simp only[List.length_map,List.length_nil]at this;omega
    have hR:∀q∈qs,txnK.rd w q:=fun q hq=>by
     obtain⟨a9,c9,e9,bq,bf⟩:=h;exact bf q (HM.out q hq)
    have aK:=q6A hO (Nat.le_succ w.heap.size)
    go_wp2
    first|go_ret|(simp only[Exit.jump];go_ret)
    first|exact⟨_,qs,rfl,hE,hL,aK,hR,hb⟩|exact⟨_,rfl,qs,hE,hL,aK,hR,hb⟩
end
theorem q5A{w:World}{base e size n:Nat}{v:Value}{xs:List Value}(h:w.ownsRow base e size v n xs):z1L v:=by
 rcases h.2 with⟨rfl,_⟩|⟨g,c,cur,rfl,_,_,h1,h2,_⟩
 ·exact⟨Vc _,by decide⟩
 ·exact⟨h1,h2⟩
theorem q61{bs:List TxnD}(h:batF bs=0):∀t∈bs,t.F=0:=by
 unfold batF at h;split at h
 ·exact absurd h (by decide)
 ·split at h
  ·rename_i h1 h2
   exact q36 h2
  ·rename_i h1 h2
   exact absurd h h2
theorem q62{x:InstE}(h:insF x=0):∀t∈x.batch,t.F=0:=by
 obtain⟨h0,_⟩:=z2l h;obtain⟨_,_,_,hb0,hb1⟩:=z1z h0
 cases hh:x.has with
 |false=>
  rw[hb0 hh];intro t ht;simp at ht
 |true=>exact q61 (hb1 hh)
theorem q6B{ds:List InstE}(h:∀x∈ds,insF x=0):∀t∈z30 ds,t.F=0:=by
 intro t ht;unfold z30 at ht;obtain⟨x,hx,ht⟩:=List.mem_flatMap.1 ht;split at ht
 ·exact q62 (h x hx) t ht
 ·simp at ht
theorem z2Y(n:Int)(h1:-1000≤n)(h2:n≤1000):(Lit.int .i64 n).wf=true:=by
 have e1:IntKind.i64.min=-9223372036854775808:=by decide
 have e2:IntKind.i64.max=9223372036854775807:=by decide
 show(decide (IntKind.i64.min≤n) && decide (n≤IntKind.i64.max))=true;rw[e1,e2,Bool.and_eq_true,decide_eq_true_eq,decide_eq_true_eq];omega
theorem q63{t:TxnD}(h:t.F=0):1≤t.id∧nmW (nmA t)∧nmW (nmB t):=by
 obtain⟨⟨h1,h2⟩,⟨h3,h4⟩,⟨h5,h6⟩,_⟩:=z3H h;exact⟨h1,⟨z2Y t.id (by omega) (by omega),z2Y 0 (by decide) (by decide),z2Y 0 (by decide) (by decide)⟩,⟨z2Y 0 (by decide) (by decide),z2Y t.session (by omega) (by omega),z2Y t.seq (by omega) (by omega)⟩⟩
theorem q4H{qs:List TxnQ}(h:∀t∈qs.map Va,t.F=0):nmL TxnQ.n qs≤4*qs.length:=by
 induction qs with
 |nil=>simp[nmL]
 |cons q r ih=>
  have h1:(Va q).F=0:=h _ (by simp);have h2:=(z3H h1).2.2.2.1.2;have h3:q.acts.length≤4:=h2;have:=ih (fun t ht=>h t (by simp only[List.map_cons,List.mem_cons];exact Or.inr ht));simp only[nmL,List.map_cons,List.sum_cons,List.length_cons,TxnQ.n]at this⊢;omega
theorem q2J{ds:List InstE}(h:∀x∈ds,insF x=0):(z30 ds).length≤4*ds.length:=by
 unfold z30;induction ds with
 |nil=>simp
 |cons x r ih=>
  have h1:=h x (by simp);have:=ih (fun y hy=>h y (List.mem_cons_of_mem _ hy));simp only[List.flatMap_cons,List.length_append,List.length_cons];have h2:x.batch.length≤4:=by
   obtain⟨h0,_⟩:=z2l h1;obtain⟨_,_,_,hb0,hb1⟩:=z1z h0
   cases hh:x.has with
   |false=>rw[hb0 hh];simp
   |true=>
    have h3:=hb1 hh;unfold batF at h3;split at h3
    ·exact absurd h3 (by decide)
    ·omega
  split
  ·omega
  ·simp only[List.length_nil];omega
theorem q2K:(It.info? 50).map (·.size)=some 2:=by kernel_rfl
theorem q5B{ds:List InstE}(h:∀x∈ds,insF x=0)(m:Nat):∀t∈defL ds m,t.F=0:=by
 intro t ht;rcases z9D _ _ t ht with ht|ht
 ·simp at ht
 ·exact q6B (fun x hx=>h x (List.mem_of_mem_take hx)) t ht
theorem z10(v:Value)(ps:List InstQ)(n:Int)(w:World)(hG:Rul w)(h:instK.At w v ps)(an:z1L v)(hl:(ps.length+nmL InstQ.n ps)≤1048576):
  Calls It 32 #[v,G S n] w fun e w'=>∃ (v':Value) (qs:List TxnQ),e=.returned (.agg #[G S (dfC (ps.map Vb) n),v'])∧qs.map Va=dfT (ps.map Vb) n∧txnK.Own w' v' qs∧(txnK.fp v' qs).Nodup∧(∀k∈txnK.fp v' qs,w.heap.size≤k)∧Below w.heap.size w w':=by
 have hB:Below w.heap.size w (w.alloc (.cells #[G S 0,Sl none 0 0] 50)):=by go_grown
 have Rb:=Blk.new w 50 #[G S 0,Sl none 0 0];have ag:=z1x v ps _ (hG.below hB) (h.below hB) hl;have HO:Hid (ordF (ps.map Vb)=0→ps.length≤4∧∀q∈ps,insF (Vb q)=0):=fun h0=>by
  have:=((z2n _).1 h0).1;rw[List.length_map]at this;exact⟨this.2,fun q hq=>z2J h0 _ (List.mem_map.2 ⟨q,hq,rfl⟩)⟩
 have HV:Hid (ordF (ps.map Vb)=0→diV (ps.map Vb)=(decN (ps.map Vb):Int)):=fun h0=>if_pos h0
 have hw:=z7w (ps.map Vb) n;have d:Hid _:=hw;clear hw;have aw:decN (ps.map Vb)≤ps.length:=by simpa using q2s (ps.map Vb)
 obtain⟨a,cap,rfl⟩:=h.shape;obtain⟨ao,ap⟩:ps.length≤cap∧cap≤maxLen:=an;generalize dfC (ps.map Vb) n=D at*;generalize dfT (ps.map Vb) n=O at*;generalize ordF (ps.map Vb)=C at*;generalize diV (ps.map Vb)=V at*;generalize decN (ps.map Vb)=M at*;go_enter func32,ntmps32
 go_wp2_with fail
 refine ag.mono ?_;rintro e w1 ⟨rfl,L⟩;replace hB:=hB.trans (L.mono hB.size);replace Rb:=Rb.below L;clear ag L;have T:Below w1.heap.size w1 (w1.alloc (.cells #[G S C,G S V] 53)):=by go_grown
 have Cb:=Blk.new w1 53 #[G S C,G S V];replace hB:=hB.trans (T.mono hB.size);have az:w.heap.size<w1.heap.size:=Rb.lt;replace Rb:=Rb.below T;clear T;by_cases hC:C=0
 ·have hv:=HV.out hC;obtain⟨h4,E⟩:=HO.out hC;have ah:∀p∈ps,insF (Vb p)=0:=E;subst hC;subst hv;clear HV HO;have c1:=Cb.cell 1 _ rfl;have c0:=Cb.cell 0 _ rfl;have ai:=fun w=>z0I n 0 (M:Int) w
  go_wp2_with fail
  clear c0 c1;generalize w1.alloc (.cells #[G S 0,G S M] 53)=X at*;refine(ai X).mono ?_;rintro e w2 ⟨rfl,aa⟩;replace aa:=aa.symm;subst aa;by_cases c:0≤n∧n≤(M:Int)
  ·have W:inW n 0 (M:Int)=true:=by unfold inW;rw[decide_eq_true c.1,decide_eq_true c.2];rfl
   obtain⟨m,rfl⟩:∃m:Nat,n=(m:Int):=⟨n.toNat,by omega⟩
   have hm:m≤ps.length:=by omega
   have E0:Hid (D=0∧O=defL (ps.map Vb) m):=by
    rcases d.out with⟨h0,_⟩|⟨_,h0,_⟩|⟨_,_,h0,h1⟩
    ·exact absurd rfl h0
    ·exact absurd c h0
    ·exact⟨h0,by simpa using h1⟩
   clear d;rw[W];have hT:=h.takeK m hm;have aj:=z9S (Sl a m cap) (ps.take m) X (hG.below hB) (hT.below hB) (fun p hp=>E p (List.mem_of_mem_take hp)) (by rw[List.length_take];omega) (by have:=z4s InstQ.n ps m;rw[List.length_take];omega);have ax:(0:Int)≤(m:Int):=by omega
   have ay:(m:Int)≤(cap:Int):=by omega
   have aq:m≤cap:=by omega
   have ad:Hid (∀ t∈z30 ((ps.take m).map Vb),t.F=0):=q6B (fun x hx=>by
    obtain⟨p,hp,rfl⟩:=List.mem_map.1 hx;exact E p (List.mem_of_mem_take hp))
   have ab:Hid (onc [] (z30 ((ps.take m).map Vb))=defL (ps.map Vb) m):=show _=_ by unfold defL;rw[List.map_take]
   clear ai E ah hT;have av:w.heap.size<X.heap.size:=Rb.lt
   go_wp2_with fail
   refine aj.mono ?_;rintro e w3 ⟨v3,q3,rfl,e3,l3,o3,ak,z⟩;replace Rb:=Rb.below z;have I:=hB.trans (z.mono hB.size);have F3:∀t∈q3.map Va,t.F=0:=fun t ht=>ad.out t (by rw[←e3];exact ht)
   have ae:txnK.At w3 v3 q3:=Kind.at_of_row o3 (fun q hq=>txnK.rd_below (ak q hq) z);have Z:=z8P v3 q3 w3 ae (q5A o3) l3 (fun p hp=>q63 (t:=Va p) (F3 _ (List.mem_map.2 ⟨p,hp,rfl⟩)));rw[e3,ab.out]at Z;obtain⟨a3,c3,rfl⟩:=z0g o3;clear aj o3 ak ae ad ab z hB
   go_wp2_with fail
   refine Z.mono ?_;rintro e w4 ⟨v4,q4,rfl,e4,l4,o4,al,A⟩;replace Rb:=Rb.below A;have J:=I.trans (A.mono I.size);have F4:∀t∈q4.map Va,t.F=0:=fun t ht=>by
    rw[e4]at ht;rcases z9D _ _ t ht with ht|ht
    ·simp at ht
    ·exact F3 t (by rw[e3,List.map_take];exact ht)
   have af:txnK.At w4 v4 q4:=Kind.at_of_row o4 (fun q hq=>txnK.rd_below (al q hq) A);have U:=z1d v4 q4 w4 af (fun p hp=>by
    have:=(z3H (F4 _ (List.mem_map.2 ⟨p,hp,rfl⟩))).2.2.2.1.1;have h9:1≤p.acts.length:=this;omega) (by have:=q4H F4;omega)
   rw[e4]at U;obtain⟨a4,c4,rfl⟩:=z0g o4;have au:w.heap.size<w4.heap.size:=Rb.lt;clear Z o4 al af A I F3 F4 e3 e4
   go_wp2_with fail
   refine U.mono ?_;rintro e w5 ⟨v5,q5,rfl,e5,o5,n5,g5,N⟩;replace Rb:=Rb.below N;have am:=J.trans (N.mono J.size);obtain⟨a5,c5,rfl⟩:=o5.shape;have E5:Hid (q5.map Va=O):=show _=_ by rw[E0.out.2];exact e5
   have ED:Hid (D=0):=E0.out.1;clear U N J e5 E0;have KF:=z0j am (Vc w.heap.size) #[G S 0,Sl a5 q5.length c5];have O5:Hid _:=o5.out (z0L _ w.heap.size #[G S 0,Sl a5 q5.length c5]) (fun k hk=>by have:=g5 k hk;simp only[List.mem_singleton];omega);have g6:∀k∈txnK.fp (Sl a5 q5.length c5) q5,w.heap.size≤k:=fun k hk=>by have:=g5 k hk;omega
   have Rr:=Rb.row #[G S 0,Sl a5 q5.length c5]
   go_wp2_with (first|(refine z0s (by kernel_rfl) 50 _ _ rfl _ #[G S 0,Sl a5 q5.length c5] rfl rfl 50 _ Rb q2K rfl (by simp[Value.oneCell']) ?_))
   obtain⟨y0,y1⟩:=Rr.cel2;refine bodyPost_ret (v:=.agg #[G S 0,Sl a5 q5.length c5]) (by simp[results,results32,go_sem,y0,y1]) rfl ?_;exact⟨_,q5,by rw[ED.out],E5.out,O5.out,n5,g6,KF⟩
  ·have W:inW n 0 (M:Int)=false:=by
    unfold inW;rw[Bool.and_eq_false_iff,decide_eq_false_iff_not,decide_eq_false_iff_not];omega
   have E0:Hid (D=3∧O=[]):=by
    rcases d.out with⟨h0,_⟩|⟨_,_,h0,h1⟩|⟨_,h0,_⟩
    ·exact absurd rfl h0
    ·exact⟨h0,h1⟩
    ·exact absurd h0 c
   clear d;rw[W];obtain⟨Y,y⟩:=Kind.own_nil (K:=txnK) (X.setRow w.heap.size #[G S 3,Sl none 0 0]);have KF:=z0j hB (Vc w.heap.size) #[G S 3,Sl none 0 0];have Rr:=Rb.row #[G S 3,Sl none 0 0]
   go_wp2_with (first|(refine z0s (by kernel_rfl) 50 _ _ rfl _ #[G S 3,Sl none 0 0] rfl rfl 50 _ Rb q2K rfl (by simp[Value.oneCell']) ?_))
   obtain⟨y0,y1⟩:=Rr.cel2;refine bodyPost_ret (v:=.agg #[G S 3,Sl none 0 0]) (by simp[results,results32,go_sem,y0,y1]) rfl ?_;exact⟨_,[],by rw[E0.out.1],by rw[E0.out.2];rfl,Y,by rw[y];simp,by rw[y];simp,KF⟩
 ·have E0:Hid (D=C∧O=[]):=by
   rcases d.out with⟨_,h0,h1⟩|⟨h0,_⟩|⟨h0,_⟩
   ·exact⟨h0,h1⟩
   ·exact absurd h0 hC
   ·exact absurd h0 hC
  clear d HV HO;have ar:(C !=0)=true:=by simpa using hC
  obtain⟨c0,c1⟩:=Cb.cel2;obtain⟨Y,y⟩:=Kind.own_nil (K:=txnK) ((w1.alloc (.cells #[G S C,G S V] 53)).setRow w.heap.size #[G S C,Sl none 0 0]);have KF:=z0j hB (Vc w.heap.size) #[G S C,Sl none 0 0];have Rr:=Rb.row #[G S C,Sl none 0 0]
  go_wp2_with (first|(refine z0s (by kernel_rfl) 50 _ _ rfl _ #[G S C,Sl none 0 0] rfl rfl 50 _ Rb q2K rfl (by simp[Value.oneCell']) ?_))
  obtain⟨y0,y1⟩:=Rr.cel2;refine bodyPost_ret (v:=.agg #[G S C,Sl none 0 0]) (by simp[results,results32,go_sem,y0,y1]) rfl ?_;exact⟨_,[],by rw[E0.out.1],by rw[E0.out.2];rfl,Y,by rw[y];simp,by rw[y];simp,KF⟩
theorem q5C{ps:List InstQ}{n:Int}{qs:List TxnQ}(h:qs.map Va=dfT (ps.map Vb) n)(_:ps.length+nmL InstQ.n ps≤1048576):qs.length+nmL TxnQ.n qs≤1048576:=by
 rcases z7w (ps.map Vb) n with⟨_,_,e⟩|⟨_,_,_,e⟩|⟨h0,h1,_,e⟩
 ·rw[e]at h;have:qs=[]:=List.map_eq_nil_iff.1 h;subst this;simp[nmL]
 ·rw[e]at h;have:qs=[]:=List.map_eq_nil_iff.1 h;subst this;simp[nmL]
 ·rw[e]at h;have hF:∀t∈qs.map Va,t.F=0:=fun t ht=>q5B (z2J h0) _ t (by rw[←h];exact ht)
  have h4:=q4H hF;have h16:qs.length≤16:=by
   have e1:qs.length=(qs.map Va).length:=by simp
   rw[e1,h];have:=z7f (z30 ((ps.map Vb).take n.toNat)) [];have h5:=q2J (ds:=(ps.map Vb).take n.toNat) (fun x hx=>z2J h0 x (List.mem_of_mem_take hx));have h6:=((z2n _).1 h0).1.2;rw[List.length_take]at h5;unfold defL;simp only[List.length_nil]at this;omega
  omega
section
variable {ops:Array Oper} {rest:List Oper} {op:Oper} {a:Act} {w:World} {Q:Exit→Act→World→Prop}
theorem q0r(hw:Region.wanted op (yielded ops a.tmps)=true)(ty:TypeId)(x y:Operand)(ho:op.op=.store ty x y)
  (g o:Nat) (cells:Array Value) (hx:a.eval x=.pointer (some ⟨g,o,none⟩)) (hy:a.eval y=.agg cells)
  (t:TypeId) (old:Array Value) (hg:Blk w g t old) (hi:(It.info? ty).map (·.size)=some cells.size)
  (hold:o+cells.size≤old.size) (h1:cells.all (·.oneCell')=true)
  (h:wpList It ops Q rest (a.put op.dst undef) (w.setCells g o cells.toList)):wpList It ops Q (op::rest) a w:=by
 simp only[wpList];rw[if_pos hw];refine Or.inl (wp_store_mid ty x y ho g o cells hx hy ?_ hi h1 h);intro j hj;refine⟨?_,hg.frozen _⟩;rw[hg.cell (o+j) (old[o+j]'(by omega)) (by rw[Array.getElem?_eq_getElem])];rfl
end
theorem Blk.mid5{w:World}{b:Nat}{t:TypeId}{c0 c1 d0 d1 d2 d3 d4:Value}(h:Blk w b t #[c0,c1,d0,d1,d2,d3,d4])(x0 x1 x2 x3 x4:Value):Blk (w.setCells b 2 [x0,x1,x2,x3,x4]) b t #[c0,c1,x0,x1,x2,x3,x4]:=by
 have:=((((h.set 2 x0).set 3 x1).set 4 x2).set 5 x3).set 6 x4;simpa only[World.setCells,pjE]using this
theorem z7x(w:World)(b:Nat)(x0 x1 x2 x3 x4:Value):Out [b] w (w.setCells b 2 [x0,x1,x2,x3,x4]):=
 (((((Out.refl [b] w).set (b:=b) (j:=2) (u:=x0) (by simp)).set (b:=b) (j:=3) (u:=x1) (by simp)).set (b:=b) (j:=4) (u:=x2) (by simp)).set (b:=b) (j:=5) (u:=x3) (by simp)).set (b:=b) (j:=6) (u:=x4) (by simp)
theorem z0R(w:World)(g:Nat)(cs:Array Value):Out [g] w (w.setRow g cs):=
 ⟨rfl,rfl,rfl,by rw[setRow_size];exact Vc _,fun k _ hn=>setRow_other w g k cs (by simpa using hn)⟩
def z2L(c:Int)(p:USQ):USQ:=⟨p.va,z12 (c) p.us⟩
def nmUs(p:USQ):Nat:=p.us.length*3
theorem z8Q(c:Int)(p:USQ):ussK.foot (z2L c p)=ussK.foot p:=by
 simp only[z2L,show∀p:USQ,ussK.foot p=undoK.fp p.va p.us from fun _=>rfl,z6u]
theorem q2L(v:Value)(ps:List USQ)(c:Int)(w:World)(h:ussK.Own w v ps)(ah:(ussK.fp v ps).Nodup)(hl:(ps.length+nmL USQ.n ps)≤1048576)(h0:0≤c)(h1:c+(nmL nmUs ps:Int)≤1099511627776):
  Calls It 144 #[v,G S c] w fun e w'=>e=.returned (G S (c+(nmL nmUs ps:Int)))∧ussK.Own w' v (mkL z2L nmUs c ps)∧Out (ussK.fp v ps) w w':=by
 obtain⟨a,cap,rfl⟩:=h.shape;have I:∀k,k≤ps.length→ussK.fp (Sl a ps.length cap) (half z2L nmUs c ps k)=ussK.fp (Sl a ps.length cap) ps:=fun k hk=>z6T z8Q _ c ps k
 have HF:Hid (∀k,k≤ps.length→ussK.fp (Sl a ps.length cap) (half z2L nmUs c ps k)=ussK.fp (Sl a ps.length cap) ps):=I;have HA:Hid (ussK.Own w (Sl a ps.length cap) (half z2L nmUs c ps 0)):=by rw[z3D];exact h
 clear I h;go_enter func144,ntmps144
 go_wp2
 go_loopw[1,5] (fun j i wr=>∃k:Nat,k≤ps.length∧j=G S (c+(nmL nmUs (ps.take k):Int))∧i=G S k∧Hid (ussK.Own wr (Sl a ps.length cap) (half z2L nmUs c ps k))∧Hid (Out (ussK.fp (Sl a ps.length cap) ps) w wr)) (fun _ i _=>ps.length-(intOf i).toNat)
 case atStart=>exact⟨0,Vd _,by simp[nmL],rfl,HA,Out.refl _ _⟩
 case round=>
  clear HA;obtain⟨k,hk,rfl,rfl,HO,HU⟩:=hrel;by_cases C:k<ps.length
  ·have ap:(half z2L nmUs c ps k).length=ps.length:=z1P _ _ _ _ _ hk;have hO:=HO.out;obtain⟨g,rfl⟩:=hO.blkOf (by omega);have J:(ussK.fp (Sl (some ⟨g,0,none⟩) ps.length cap) (half z2L nmUs c ps k)).Nodup:=by rw[HF.out k hk];exact ah
   have M:Hid (∀x∈ussK.foot ps[k],x∈ussK.fp (Sl (some ⟨g,0,none⟩) ps.length cap) ps):=fun x hx=>by
    simp only[Kind.fp,List.mem_append,List.mem_flatMap];exact Or.inr ⟨_,List.getElem_mem C,hx⟩
   have ad:Hid (∀x∈[g],x∈ussK.fp (Sl (some ⟨g,0,none⟩) ps.length cap) ps):=fun x hx=>by
    simp only[List.mem_singleton]at hx;subst hx;simp[Kind.fp,blk,Value.ownBlock]
   have W:k<(half z2L nmUs c ps k).length:=by omega
   have A:=z4S z2L nmUs c ps k C;have z:ussK.Own wr (Sl (some ⟨g,0,none⟩) ps.length cap) ((half z2L nmUs c ps k).set k ps[k]):=by
    have e:(half z2L nmUs c ps k).set k ps[k]=half z2L nmUs c ps k:=by
     rw[←A,List.set_getElem_self]
    rw[e];exact hO
   have T:(ussK.fp (Sl (some ⟨g,0,none⟩) ps.length cap) ((half z2L nmUs c ps k).set k ps[k])).Nodup:=by
    have e:(half z2L nmUs c ps k).set k ps[k]=half z2L nmUs c ps k:=by
     rw[←A,List.set_getElem_self]
    rw[e];exact J
   clear A hO J;have L:=z4T z2L nmUs c ps k C;have ak:=z1r nmUs ps k C;have af:=z4s nmUs ps (k+1);have am:=z1o USQ.n ps k C;have U:Hid ((nmL nmUs (ps.take (k+1)):Int)=(nmL nmUs (ps.take k):Int)+(nmUs ps[k]:Int)):=show _=_ by omega
   have al:(nmL nmUs (ps.take k):Int)+(nmUs ps[k]:Int)≤nmL nmUs ps:=by omega
   have E:Hid ((half z2L nmUs c ps k).set k (z2L (c+(nmL nmUs (ps.take k):Int)) ps[k])=half z2L nmUs c ps (k+1)):=L;clear L ak af HO;generalize half z2L nmUs c ps k=hs at*;generalize aj:ps[k]=p at*;clear aj;obtain⟨D,d⟩:=p;have N:k<hs.length:=W;dsimp only[nmUs,USQ.n]at U al am;generalize hy:(nmL nmUs (ps.take k):Int)=y at*;have aq:0≤y:=by omega
   clear hy;obtain⟨c0,f0⟩:=z.cell' N 0 (D) rfl;rw[show k*ussK.size+0=k from by show k*1+0=k;omega]at c0 f0;have V:=z.elem' N;have O:undoK.Own wr D d:=V;have X:=z9p D d (c+y) _ O (by omega) (by omega) (by omega);obtain⟨an,ao,Z⟩:=O.shape;subst Z;clear V O
   go_wp2_with fail
   refine X.mono ?_;rintro e aa ⟨rfl,ag,Y⟩;clear X;obtain⟨ab,ai⟩:=z.turn' T N (⟨Sl an d.length ao,z12 (c+y) d⟩:USQ) Y (fun x hx=>hx) rfl (by exact z6u _ _ _) (ag);have HU:Hid (Out (ussK.fp (Sl (some ⟨g,0,none⟩) ps.length cap) ps) w aa):=HU.out.trans (Y.mono (fun x hx=>M.out x (show x∈ussK.foot _ from(fun x hx=>hx) x hx)));have z:=ab;have T:=ai;have R:Hid (ussK.Own aa (Sl (some ⟨g,0,none⟩) ps.length cap) (half z2L nmUs c ps (k+1))):=by rw[←E.out];exact z
   clear z T E M ad
   go_wp2
   go_roundw
   case rel=>exact⟨k+1,by omega,by rw[U.out];congr 1;omega,by go_num,R.out,HU.out⟩
   case measure=>simp[intOf];omega
  ·have ae:k=ps.length:=by omega
   subst ae;have hO:=HO.out;rw[z4R]at hO;rw[List.take_length];clear HF HO
   go_wp2
   go_ret;exact⟨rfl,hO,HU.out⟩
theorem q2M(v:Value)(ps:List USQ)(c:Int)(w:World)(h:ussK.At w v (mkL z2L nmUs c ps))(hl:(ps.length+nmL USQ.n ps)≤1048576)(h0:0≤c)(h1:c+(nmL nmUs ps:Int)≤1099511627776):
  Calls It 199 #[v,G S c] w fun e w'=>e=.returned (G S (c+(nmL nmUs ps:Int)))∧Below w.heap.size w w':=by
 obtain⟨a,cap,rfl⟩:=h.shape;have C:=z1v z2L nmUs c ps;rw[C]at h⊢;have HM:Hid ((mkL z2L nmUs c ps).length=ps.length):=C;clear C;go_enter func199,ntmps199
 go_wp2
 go_loopw[1,5] (fun j i wr=>∃k:Nat,k≤ps.length∧j=G S (c+(nmL nmUs (ps.take k):Int))∧i=G S k∧Below w.heap.size w wr) (fun _ i _=>ps.length-(intOf i).toNat)
 case atStart=>exact⟨0,Vd _,by simp[nmL],rfl,Below.refl _ _⟩
 case round=>
  obtain⟨k,hk,rfl,rfl,hb⟩:=hrel;by_cases A:k<ps.length
  ·have L:k<(mkL z2L nmUs c ps).length:=by have:=HM.out;omega
   obtain⟨b,Y,rfl,Z,hc,M⟩:=(h.below hb).cell (by decide) k L;rw[z9h z2L nmUs c ps k A]at hc M;have V:=z1r nmUs ps k A;have T:=z4s nmUs ps (k+1);have X:=z1o USQ.n ps k A;have D:Hid ((nmL nmUs (ps.take (k+1)):Int)=(nmL nmUs (ps.take k):Int)+(nmUs ps[k]:Int)):=show _=_ by omega
   have W:(nmL nmUs (ps.take k):Int)+(nmUs ps[k]:Int)≤nmL nmUs ps:=by omega
   clear V T h;generalize U:ps[k]=p at*;clear U;obtain⟨z,d⟩:=p;dsimp only[nmUs,USQ.n]at D W X;generalize hy:(nmL nmUs (ps.take k):Int)=y at*;have aa:0≤y:=by omega
   clear hy;have I:∀j x,(ussK.cells (z2L (c+y) (⟨z,d⟩:USQ)))[j]?=some x→wr.cell? ⟨b,Y+k+j,none⟩=some x:=fun j x hx=>by have:=hc j x hx;rwa [show k*ussK.size=k from Nat.mul_one k]at this
   clear hc;have c0:=I 0 (z) rfl;have r0:undoK.At wr z (z12 (c+y) d):=M;have J:=fun w h=>z9q z d (c+y) w h (by omega) (by omega) (by omega)
   obtain⟨ad,ae,N⟩:=r0.shape;subst N;rw[Nat.add_zero]at c0;clear I;have ab:¬(c+y+((d.length*3:Nat):Int)<0):=by omega
   go_wp2_with fail
   refine(J wr r0).mono ?_;rintro e w0 ⟨rfl,E⟩;replace hb:=hb.trans (E.mono hb.size);clear E J c0
   go_wp2
   go_roundw
   case rel=>exact⟨k+1,by omega,by rw[D.out];congr 1;omega,by go_num,hb⟩
   case measure=>simp[intOf];omega
  ·have O:k=ps.length:=by omega
   subst O;rw[List.take_length]
   go_wp2
   go_ret;exact⟨rfl,hb⟩
end Go.Proofs.YtlkpdgjnhkjpjaaGreatDoor

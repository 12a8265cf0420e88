import Derived.Test.YtdppipeclnldeaaGreatDoorOBAL
set_option linter.unusedVariables false
set_option linter.unusedSimpArgs false
set_option maxRecDepth 100000
set_option maxHeartbeats 8000000
namespace Go.Proofs.YtdppipeclnldeaaGreatDoor
open Go.RowKit Go.BigFrame
open TxnQ renaming e->Va
open InstQ renaming e->Vb,n->Vc
open Nat renaming le_refl->Vd,zero_le->Ve
open List renaming length_map->Vf,mem_append_right->Vg,mem_append_left->Vh,getElem_mem->Vi
open IntKind renaming i64->S
open Value renaming int->G,slice->Sl
open Go.Proofs.Tryz renaming prog->It
open Go.Proofs.Tryz
section
open Go.Maps
theorem Cts.below{w w':World}{b:Nat}{ns:List Nm}(h:Cts w b ns)(hb:Below w.heap.size w w'):Cts w' b ns:=by
 obtain⟨D,h,hc⟩:=h;have hlt:=h.lt;obtain⟨es,clock,h1,r⟩:=h;exact⟨D,⟨es,clock,(hb.block b hlt).trans h1,r⟩,hc⟩
theorem Cts.drew{w:World}{b:Nat}{ns:List Nm}(h:Cts w b ns):Cts w.drew b ns:=h
theorem z6X{B:Nat}{w w':World}(h:Below B w w'):Below B w w'.drew:=⟨h.os,h.tape,h.output,h.size,h.block⟩
theorem q0D{w:World}{base e size n:Nat}{v:Value}{xs:List Value}(h:w.ownsRow base e size v n xs):w.drew.ownsRow base e size v n xs:=h
theorem q0E{w:World}{b:Nat}{t:TypeId}{cs:Array Value}(h:Blk w b t cs):Blk w.drew b t cs:=h
theorem q2X{w w':World}{M e size n:Nat}{v:Value}{xs:List Value}(h:w.ownsRow (M+1) e size v n xs)(ht:w.mapTurned w' M):w'.ownsRow (M+1) e size v n xs:=by
 refine h.kept ht.grown ?_
 cases hv:v.ownBlock with
 |none=>exact Or.inl rfl
 |some k=>
  have:=(h.lt k hv).1;exact Or.inr (fun e=>by simp at e;omega)
theorem q2Y{w w':World}{b M:Nat}{t:TypeId}{cs:Array Value}(h:Blk w b t cs)(ht:w.mapTurned w' M):Blk w' b t cs:=by
 refine h.grown ht.grown (fun e=>?_);obtain⟨es,clock,es',clock',hb,_⟩:=ht;simp only[Option.some.injEq]at e;subst e;have h2:w.heap[b]?=some (.cells cs t):=h;rw[h2]at hb
 cases hb
theorem z8X{B M:Nat}{w0 w w':World}(h:Below B w0 w)(ht:w.mapTurned w' M)(hM:B≤M):Below B w0 w':=by
 have hg:=ht.grown;obtain⟨es,clock,es',clock',hb,rfl⟩:=ht;have hl:M<w.heap.size:=(Array.getElem?_eq_some_iff.1 hb).1;refine⟨hg.os.trans h.os,hg.tape.trans h.tape,hg.output.trans h.output,Nat.le_trans h.size hg.size,fun k hk=>(hg.block k (by omega) (fun e=>?_)).trans (h.block k hk)⟩;simp only[Option.some.injEq]at e;omega
theorem q6w{w:World}{base base' e size n:Nat}{v:Value}{xs:List Value}(h:w.ownsRow base e size v n xs)(hb:base'≤base):w.ownsRow base' e size v n xs:=by
 refine⟨h.1,?_⟩;rcases h.2 with h2|⟨g,cap,cur,hv,hg,hh,r⟩
 ·exact Or.inl h2
 ·exact Or.inr ⟨g,cap,cur,hv,by omega,hh,r⟩
theorem nmX0(a b c d e f:Int)(w:World):(Instr.index 282 (.agg #[G S a,G S b,G S c,G S d,G S e,G S f]) (G S 0)).run It w=.ok (.agg #[G S a,G S b,G S c]) w:=by kernel_rfl
theorem nmX1(a b c d e f:Int)(w:World):(Instr.index 282 (.agg #[G S a,G S b,G S c,G S d,G S e,G S f]) (G S 1)).run It w=.ok (.agg #[G S d,G S e,G S f]) w:=by kernel_rfl
theorem z5Y{P:Program}{a:Act}{w:World}{Q:Exit→Act→World→Prop}{c X:Code}(l:Nat)(J:Act→World→Prop)(μ:Act→World→Nat)(hf:findLabel c l=some (Code.skip.seq X))
  (first:(∀a w,J a w→X.wp P (Exit.jump l J Q) a w)→c.wp P (Exit.jump l J Q) a w)
  (pass:∀a w,J a w→X.wp P (Exit.jump l (fun a' w'=>J a' w'∧μ a' w'<μ a w) Q) a w):(Code.scope c).wp P Q a w:=by
 refine wp_scope_jumps l J μ hf (first fun a w h=>?_) (fun a w h=>wp_seq_k fun K hK=>wp_skip (hK _ _ (pass a w h)));refine wp_mono (pass a w h) (fun e a w he=>?_)
 cases e with
 |goto l'=>exact⟨he.1,he.2.1⟩
 |normal=>exact he
 |exit id=>exact he
 |ret=>exact he
 |panic ch=>exact he
 |outgrown=>exact he
theorem q1C{P:Program}{a0:Act}{w0:World}{Q:Exit→Act→World→Prop}{r1 r2 rest:Code}{l:Nat}{J:Act→World→Prop}(hrest:∀a w,J a w→rest.wp P Q a w)(h:∀R:Code,(∀a w,J a w→R.wp P Q a w)→(r1.seq (r2.seq R)).wp P Q a0 w0):(r1.seq (r2.seq ((Code.label l).seq rest))).wp P Q a0 w0:=
 h _ (fun a w hJ=>wp_seq_k fun K hK=>wp_label (hK _ _ (hrest a w hJ)))
def OeW(w:World)(ps:List TxnQ)(v v4:Value)(wr:World):Prop:=∃ (k:Nat) (rs qs:List TxnQ),k≤ps.length∧Hid (rs=ps.drop k)∧txnK.At w v rs∧z8D v∧Hid (qs.map Va=onc [] ((ps.take k).map Va))∧wr.ownsRow (w.heap.size+1) 152 4 v4 qs.length (txnK.row qs)∧Hid (∀q∈qs,q∈ps)∧Cts wr w.heap.size (nms (qs.map Va))∧Below w.heap.size w wr
def OeJ(w:World)(ps:List TxnQ)(a':Act)(w':World):Prop:=∃ (v v4 u5 u6 u7 u8 u9 u10 u11 u12 u13 u14 u15 u16 u17 u18 u19 u20 u21 u22 u23 u24 u25 u26 u27 u28 u29 u30 u31 u32 u33 u34 u35 u36 u37 u38 u39 u40 u41 u42 u43 u44 u45 u46 u47 u48 u49 u50 u51 u52 u53 u54 u55 u56 u57 u58:Value),a'={tmps:=#[v,undef,Sl none 0 0,.map (some w.heap.size),v4,u5,u6,u7,u8,u9,u10,u11,u12,u13,u14,u15,u16,u17,u18,u19,u20,u21,u22,u23,u24,u25,u26,u27,u28,u29,u30,u31,u32,u33,u34,u35,u36,u37,u38,u39,u40,u41,u42,u43,u44,u45,u46,u47,u48,u49,u50,u51,u52,u53,u54,u55,u56,u57,u58],defers:=[]}∧OeW w ps v v4 w'
def OeM(a':Act)(_:World):Nat:=match a'.tmps.getD 0 undef with| Sl _ n _=>n|_=>0
theorem z8Y(v:Value)(ps:List TxnQ)(w:World)(h:txnK.At w v ps)(aq:z8D v)(hl:ps.length≤16)(hW:∀p∈ps,1≤p.i∧nmW (nmA (Va p))∧nmW (nmB (Va p))):
  Calls It 167 #[v] w fun e w'=>∃ (v':Value) (qs:List TxnQ),e=.returned v'∧qs.map Va=onc [] (ps.map Va)∧qs.length≤16∧w'.ownsRow w.heap.size 152 4 v' qs.length (txnK.row qs)∧(∀q∈qs,txnK.rd w q)∧Below w.heap.size w w':=by
 obtain⟨i0,a6,bg,bh,bi⟩:=info_parts z1A;have bc:=@run_makeMap It;go_enter func167,ntmps167
 go_wp2
 refine z5Y 0 (OeJ w ps) OeM rfl ?_ ?_
 ·intro ay;obtain⟨a,cap,rfl⟩:=h.shape;have aw:=Cts.made w;have a1:Below w.heap.size w (w.alloc (.map #[] 0)):=by go_grown
  have be:(w.alloc (.map #[] 0)).ownsRow (w.heap.size+1) 152 4 (Sl none 0 0) ([]:List TxnQ).length (txnK.row []):=World.ownsRow_nil _ _ _ _;refine q1C ay fun R hR=>?_
  go_wp2
  refine hR _ _ ?_;refine⟨_,_,_,_,_,_,_,_,_,_,_,_,_,_,_,_,_,_,_,_,_,_,_,_,_,_,_,_,_,_,_,_,_,_,_,_,_,_,_,_,_,_,_,_,_,_,_,_,_,_,_,_,_,_,_,_,rfl,0,ps,[],Ve _,(rfl:_=_),h,aq,(rfl:_=_),be,fun q hq=>by simp at hq,aw,a1⟩
 ·clear bc;rintro a' w' ⟨v,v4,u5,u6,u7,u8,u9,bz,bA,bB,bC,bD,bE,bF,bG,bH,bI,bJ,bK,bL,bM,bN,bO,bP,bQ,bR,bS,bT,bU,bV,bW,bX,bY,bZ,b0,b1,b2,b3,b4,b5,b6,b7,b8,b9,ca,cb,cc,cd,ce,cf,cg,ch,ci,cj,ck,cl,rfl,k0,rs,bl,bt,aj,hA,aq,aB,ao,aD,aI,aY⟩;obtain⟨a,cap,rfl⟩:=hA.shape;have aa:Hid (rs.length=ps.length-k0):=show _=_ by rw[aj.out,List.length_drop]
  obtain⟨aM,bn⟩:rs.length≤cap∧cap≤maxLen:=aq;obtain⟨bw,bx,rfl⟩:=z0f ao
  go_wp2
  go_loopw[0,4,15] (fun v0 v j wr=>∃ (i:Nat) (qs:List TxnQ),i≤rs.length∧v0=Sl a rs.length cap∧j=G S i∧Hid (qs.map Va=onc [] ((ps.take (k0+i)).map Va))∧wr.ownsRow (w.heap.size+1) 152 4 v qs.length (txnK.row qs)∧Hid (∀q∈qs,q∈ps)∧Cts wr w.heap.size (nms (qs.map Va))∧Below w.heap.size w wr) (fun _ _ j _=>rs.length-(intOf j).toNat)
  case atStart=>exact⟨0,bl,Ve _,rfl,rfl,aB,ao,aD,aI,aY⟩
  case round=>
   clear aB ao aD aI;obtain⟨i,qs,hi,rfl,rfl,HE,hO,HM,hC,hb⟩:=hrel;obtain⟨sa,sc,rfl⟩:=z0f hO;by_cases bb:i<rs.length
   ·have hk:k0+i<ps.length:=by have:=aa.out;omega
    obtain⟨b,Z,rfl,a2,hc,aS⟩:=hA.cell (by decide) i bb;have aR:rs[i]=ps[k0+i]:=by
     obtain rfl:rs=ps.drop k0:=aj.out;simp
    rw[aR]at hc aS;obtain⟨h1,az,aA⟩:=hW _ (Vi hk);have HY:Hid (onc [] ((ps.take (k0+i+1)).map Va)=if knw (qs.map Va) (Va ps[k0+i])then qs.map Va else qs.map Va++[Va ps[k0+i]]):=show _=_ by
     rw[HE.out,List.take_succ_eq_append_getElem hk,List.map_append,z16];rfl
    have L:∀j x,(txnK.cells ps[k0+i])[j]?=some x→w.cell? ⟨b,Z+i*4+j,none⟩=some x:=hc;have c0:=z8T (L 0 (G S ps[k0+i].i) rfl) hb;have c1:=z8T (L 1 (G S ps[k0+i].s) rfl) hb;have c2:=z8T (L 2 (G S ps[k0+i].q) rfl) hb;have c3:=z8T (L 3 ps[k0+i].va rfl) hb;rw[Nat.add_zero]at c0;have bm:b<wr.heap.size:=Nat.lt_of_lt_of_le a2 hb.size;have aP:ps[k0+i]∈ps:=Vi hk;clear hc L aR;generalize ps[k0+i]=p at*;obtain⟨pi,d,pq,bj,c⟩:=p;have hT:actK.At w bj c:=aS;obtain⟨ba,bk,rfl⟩:=hT.shape;dsimp only at c0 c1 c2 c3 h1;obtain⟨A,E⟩:∃A,A=rs.drop (i+1):=⟨_,rfl⟩
    have aO:A.length=rs.length-(i+1):=by rw[E,List.length_drop]
    obtain⟨ra,rc,bv,aF,M⟩:∃ra rc,(∀u:World,(Instr.slice 51 (Sl (some ⟨b,Z,none⟩) rs.length cap) (some (G S ((i:Int)+1))) none none).run It u=.ok (Sl ra A.length rc) u)∧txnK.At w (Sl ra A.length rc) A∧z8D (Sl ra A.length rc):=by
     have hd:=hA.dropS (i+1) (by omega) aM (cap-(i+1));rw[←E]at hd;refine⟨_,_,fun u=>?_,hd,⟨by omega,by omega⟩⟩;rw[run_slice_l u 51 (some ⟨b,Z,none⟩) rs.length cap (by kernel_rfl) .i64 ((i:Int)+1) (by omega) (by omega),aO];rfl
    have ad:Hid (A=ps.drop (k0+(i+1))):=show _=_ by rw[E,aj.out,List.drop_drop]
    have ab:Hid (A.length<rs.length):=show _<_ by omega
    have HJ:Hid (knw (qs.map Va) (Va (⟨pi,d,pq,Sl ba c.length bk,c⟩:TxnQ))=true→qs.map Va=onc [] ((ps.take (k0+(i+1))).map Va)):=fun ar=>by
     have h9:=HY.out;rw[ar]at h9;rw[←Nat.add_assoc,h9];rfl
    clear E aO;obtain⟨BX,aH⟩:∃BX,BX=wr.heap.size:=⟨_,rfl⟩
    have aU:Hid ((nms (qs.map Va)).length≤32):=show _≤_ by
     rw[q2U,HE.out];have:=z7z ((ps.take (k0+i)).map Va) [];simp only[Vf,List.length_take,List.length_nil]at this;omega
    have X:Below wr.heap.size wr ((wr.alloc (.cells #[G S pi,G S d,G S pq,Sl ba c.length bk] 152)).alloc (.cells #[G S pi,G S 0,G S 0,G S 0,G S d,G S pq] 282)):=by go_grown
    have X1:Blk ((wr.alloc (.cells #[G S pi,G S d,G S pq,Sl ba c.length bk] 152)).alloc (.cells #[G S pi,G S 0,G S 0,G S 0,G S d,G S pq] 282)) wr.heap.size 152 #[G S pi,G S d,G S pq,Sl ba c.length bk]:=(Blk.new wr 152 #[G S pi,G S d,G S pq,Sl ba c.length bk]).below (by go_grown);have X2:Blk ((wr.alloc (.cells #[G S pi,G S d,G S pq,Sl ba c.length bk] 152)).alloc (.cells #[G S pi,G S 0,G S 0,G S 0,G S d,G S pq] 282)) (wr.heap.size+1) 282 #[G S pi,G S 0,G S 0,G S 0,G S d,G S pq]:=by
     have:=Blk.new (wr.alloc (.cells #[G S pi,G S d,G S pq,Sl ba c.length bk] 152)) 282 #[G S pi,G S 0,G S 0,G S 0,G S d,G S pq];simpa using this
    have V:=z0d hO X;have O:Cts ((wr.alloc (.cells #[G S pi,G S d,G S pq,Sl ba c.length bk] 152)).alloc (.cells #[G S pi,G S 0,G S 0,G S 0,G S d,G S pq] 282)) w.heap.size (nms (qs.map Va)):=hC.below X;have z:=hb.trans (X.mono hb.size)
    go_wp2
    clear X c0 c1 c2 c3 hb hO hC;rw[←aH]at X1;generalize (wr.alloc (.cells #[G S pi,G S d,G S pq,Sl ba c.length bk] 152)).alloc (.cells #[G S pi,G S 0,G S 0,G S 0,G S d,G S pq] 282)=Y at*;go_loopw[0,30] (fun v0 j wy=>∃m:Nat,m≤2∧v0=Sl (some ⟨b,Z,none⟩) rs.length cap∧j=G S m∧Hid (1≤m→(nms (qs.map Va)).count (pi,0,0)=0)∧Hid (2≤m→(nms (qs.map Va)).count (0,d,pq)=0)∧Below Y.heap.size Y wy) (fun _ j _=>2-(intOf j).toNat)
    case atStart=>exact⟨0,Ve _,rfl,rfl,fun h=>by omega,fun h=>by omega,Below.refl _ _⟩
    case round=>
     obtain⟨m,hm,rfl,rfl,HA,HB,y⟩:=hrel;have T:=O.below y;have au:=fun o=>(T.kept (row:=none) (World.grownBy_alloc wr o none) (by simp)).look az
     have av:=fun o=>(T.kept (row:=none) (World.grownBy_alloc wr o none) (by simp)).look aA
     simp only[nmV,nmA,nmB,Va]at au av;have br:=nmX0 pi 0 0 0 d pq;have bs:=nmX1 pi 0 0 0 d pq;replace X2:=X2.below y;obtain rfl|rfl|rfl:m=0∨m=1∨m=2:=by omega
     ·by_cases hp:0<(nms (qs.map Va)).count (pi,0,0)
      ·have ah:Hid (knw (qs.map Va) (Va (⟨pi,d,pq,Sl ba c.length bk,c⟩:TxnQ))=true):=(z92 (acc:=qs.map Va) (t:=Va (⟨pi,d,pq,Sl ba c.length bk,c⟩:TxnQ)) (fun x hx=>by obtain⟨q,hq,rfl⟩:=List.mem_map.1 hx;exact(hW q (HM.out q hq)).1) h1).2 (Or.inl hp)
       go_wp2
       refine wp_goto ?_;refine⟨rfl,⟨_,_,_,_,_,_,_,_,_,_,_,_,_,_,_,_,_,_,_,_,_,_,_,_,_,_,_,_,_,_,_,_,_,_,_,_,_,_,_,_,_,_,_,_,_,_,_,_,_,_,_,_,_,_,_,_,rfl,k0+(i+1),A,qs,by omega,ad,aF,M,HJ.out ah.out,z0d (z0d V y) (by go_grown),HM,(O.below y).below (by go_grown),z.trans ((y.alloc y.size _).mono z.size)⟩,?_⟩;exact ab.out
      ·have hz:(nms (qs.map Va)).count (pi,0,0)=0:=by omega
       rw[hz]at au
       go_wp2
       go_roundw
       case rel=>exact⟨1,by omega,rfl,by go_num,fun _=>hz,fun h=>by omega,y.alloc y.size _⟩
       case measure=>simp[intOf]
     ·have N:=HA.out (by omega);by_cases hp:0<(nms (qs.map Va)).count (0,d,pq)
      ·have ah:Hid (knw (qs.map Va) (Va (⟨pi,d,pq,Sl ba c.length bk,c⟩:TxnQ))=true):=(z92 (acc:=qs.map Va) (t:=Va (⟨pi,d,pq,Sl ba c.length bk,c⟩:TxnQ)) (fun x hx=>by obtain⟨q,hq,rfl⟩:=List.mem_map.1 hx;exact(hW q (HM.out q hq)).1) h1).2 (Or.inr hp)
       go_wp2
       refine wp_goto ?_;refine⟨rfl,⟨_,_,_,_,_,_,_,_,_,_,_,_,_,_,_,_,_,_,_,_,_,_,_,_,_,_,_,_,_,_,_,_,_,_,_,_,_,_,_,_,_,_,_,_,_,_,_,_,_,_,_,_,_,_,_,_,rfl,k0+(i+1),A,qs,by omega,ad,aF,M,HJ.out ah.out,z0d (z0d V y) (by go_grown),HM,(O.below y).below (by go_grown),z.trans ((y.alloc y.size _).mono z.size)⟩,?_⟩;exact ab.out
      ·have hz:(nms (qs.map Va)).count (0,d,pq)=0:=by omega
       rw[hz]at av
       go_wp2
       go_roundw
       case rel=>exact⟨2,by omega,rfl,by go_num,fun _=>N,fun _=>hz,y.alloc y.size _⟩
       case measure=>simp[intOf]
     ·have N:=HA.out (by omega);have aG:=HB.out (by omega);obtain⟨x0,x1,x2,x3,x4,x5⟩:=X2.cel6;replace X1:=X1.below y;have aL:=z0d V y;replace z:=z.trans (y.mono z.size)
      go_wp2
      clear x0 x1 x2 x3 x4 x5 X2 au av HA HB y O V;have a8:(nms (qs.map Va)).length≤32:=aU.out;have aN:knw (qs.map Va) (Va (⟨pi,d,pq,Sl ba c.length bk,c⟩:TxnQ))=false:=by
       cases ar:knw (qs.map Va) (Va (⟨pi,d,pq,Sl ba c.length bk,c⟩:TxnQ))with
       |false=>rfl
       |true=>
        have h9:=(z92 (acc:=qs.map Va) (t:=Va (⟨pi,d,pq,Sl ba c.length bk,c⟩:TxnQ)) (fun x hx=>by obtain⟨q,hq,rfl⟩:=List.mem_map.1 hx;exact(hW q (HM.out q hq)).1) h1).1 ar;have bo:(nms (qs.map Va)).count (nmA (Va (⟨pi,d,pq,Sl ba c.length bk,c⟩:TxnQ)))=0:=N;have bp:(nms (qs.map Va)).count (nmB (Va (⟨pi,d,pq,Sl ba c.length bk,c⟩:TxnQ)))=0:=aG;omega
      have aT:Hid ((qs++[(⟨pi,d,pq,Sl ba c.length bk,c⟩:TxnQ)]).map Va=onc [] ((ps.take (k0+(i+1))).map Va)):=show _=_ by
       have h9:=HY.out;rw[aN]at h9;rw[←Nat.add_assoc,h9];simp
      have aV:Hid (∀q∈qs++[(⟨pi,d,pq,Sl ba c.length bk,c⟩:TxnQ)],q∈ps):=fun q hq=>by
       rcases List.mem_append.1 hq with hq|hq
       ·exact HM.out q hq
       ·rw[List.mem_singleton.1 hq];exact aP
      have aC:Hid (qs.length≤16):=show _≤_ by
       have h9:=a8;rw[q2U]at h9;simp at h9;omega
      have aW:Hid (nms ((qs++[(⟨pi,d,pq,Sl ba c.length bk,c⟩:TxnQ)]).map Va)=nms (qs.map Va)++[(pi,0,0),(0,d,pq)]):=show _=_ by
       rw[List.map_append];exact(q4j _ _).trans (by simp[nmA,nmB,Va])
      clear aN HY;generalize bu:nms (qs.map Va)=ns at*;go_loopw[43] (fun j wz=>∃m:Nat,m≤2∧j=G S m∧Cts wz w.heap.size (ns++[(pi,0,0),(0,d,pq)].take m)∧wz.ownsRow (w.heap.size+1) 152 4 (Sl sa qs.length sc) qs.length (txnK.row qs)∧Blk wz BX 152 #[G S pi,G S d,G S pq,Sl ba c.length bk]∧Below w.heap.size w wz) (fun j _=>2-(intOf j).toNat)
      case atStart=>exact⟨0,Ve _,rfl,by simpa using T,aL,X1,z⟩
      case round=>
       clear T aL X1 z;obtain⟨m,hm,rfl,J,W,X1,z⟩:=hrel;obtain rfl|rfl|rfl:m=0∨m=1∨m=2:=by omega
       ·simp only[List.take_zero,List.append_nil]at J;have I:Cts (wr.alloc (.cells #[G S pi,G S 0,G S 0] 281)).drew w.heap.size ns:=(J.kept (row:=none) (World.grownBy_alloc wr (.cells #[G S pi,G S 0,G S 0] 281) none) (by simp)).drew;have e0:=I.look az;obtain⟨v0,st,w1,w3,e1,e2,e3,t1,t3,al⟩:=I.inc az (by omega);have z1:((0:Nat):Int)+1=1:=rfl;simp only[nmV,nmA,Va,N,z1]at e0 e1 e2 e3;have ai:Hid (w3.ownsRow (w.heap.size+1) 152 4 (Sl sa qs.length sc) qs.length (txnK.row qs)):=q2X (q0D (z0d W (by go_grown))) t3;have ak:Hid (Blk w3 BX 152 #[G S pi,G S d,G S pq,Sl ba c.length bk]):=q2Y (q0E (X1.below (by go_grown))) t3;have ag:Hid (Below w.heap.size w w3):=z8X (z6X (z.alloc z.size _)) t3 (Vd _);clear t1 t3
        go_wp2
        go_region
        go_wp2
        go_roundw
        case rel=>exact⟨1,by omega,by go_num,al,ai.out,ak.out,ag.out⟩
        case measure=>simp[intOf]
       ·have bd:(ns++[(pi,0,0)]).count (0,d,pq)=0:=by
         rw[List.count_append,aG];have:[(pi,(0:Int),(0:Int))].count (0,d,pq)=0:=List.count_eq_zero.2 (by simp;omega);omega
        have aJ:Cts wr w.heap.size (ns++[(pi,0,0)]):=J;have I:Cts (wr.alloc (.cells #[G S 0,G S d,G S pq] 281)).drew w.heap.size (ns++[(pi,0,0)]):=(aJ.kept (row:=none) (World.grownBy_alloc wr (.cells #[G S 0,G S d,G S pq] 281) none) (by simp)).drew;have e0:=I.look aA;obtain⟨v0,st,w1,w3,e1,e2,e3,t1,t3,al⟩:=I.inc aA (by simp;omega);have z1:((0:Nat):Int)+1=1:=rfl;have am:Cts w3 w.heap.size (ns++[(pi,0,0),(0,d,pq)]):=by
         have e9:ns++[(pi,0,0)]++[(0,d,pq)]=ns++[(pi,0,0),(0,d,pq)]:=by simp
         rw[←e9];exact al
        simp only[nmV,nmB,Va,bd,z1]at e0 e1 e2 e3;have ai:Hid (w3.ownsRow (w.heap.size+1) 152 4 (Sl sa qs.length sc) qs.length (txnK.row qs)):=q2X (q0D (z0d W (by go_grown))) t3;have ak:Hid (Blk w3 BX 152 #[G S pi,G S d,G S pq,Sl ba c.length bk]):=q2Y (q0E (X1.below (by go_grown))) t3;have ag:Hid (Below w.heap.size w w3):=z8X (z6X (z.alloc z.size _)) t3 (Vd _);clear t1 t3
        go_wp2
        go_region
        go_wp2
        go_roundw
        case rel=>exact⟨2,by omega,by go_num,am,ai.out,ak.out,ag.out⟩
        case measure=>simp[intOf]
       ·rw[aH]at X1;obtain⟨y0,y1,y2,y3⟩:=X1.cel4;have D:Below wr.heap.size wr (wr.alloc (.cells #[G S pi,G S d,G S pq,Sl ba c.length bk] 152)):=by go_grown
        have U:=z0d W D;have an:Cts (wr.alloc (.cells #[G S pi,G S d,G S pq,Sl ba c.length bk] 152)) w.heap.size (ns++[(pi,0,0),(0,d,pq)]):=Cts.below (w:=wr) J D;have ap:=z.trans (D.mono z.size);have aE:Hid (qs.length≤16):=aC;clear W J z X1 D
        go_wp2_with (at_builtin;refine wpList_append_own_at _ rfl _ _ 51 rfl (w.heap.size+1) 152 i0 (.agg #[G S 0,G S 0,G S 0,Sl none 0 0]) 4 48 Tryz.underlying51 a6 bg bh bi rfl (by decide) _ qs.length (txnK.row qs) rfl U ⟨wr.heap.size,0,none⟩ 1 1 [G S pi,G S d,G S pq,Sl ba c.length bk] rfl rfl ?c1 ?c2 ?c3 ?c4 ?c5 ?_)
        all_goals try(case c1=>intro j u hj;match j,hj with|0,hj=>simp at hj;subst hj;simp[Addr.add]|1,hj=>simp at hj;subst hj;simp[Addr.add]|2,hj=>simp at hj;subst hj;simp[Addr.add]|3,hj=>simp at hj;subst hj;simp[Addr.add])
        all_goals try(case c2=>intro u hu;simp at hu;rcases hu with rfl|rfl|rfl|rfl<;>rfl)
        all_goals try(case c3=>have:=aE.out;unfold maxLen;omega)
        all_goals try(case c4=>have:=aE.out;omega)
        all_goals try(case c5=>have:=an.lt;omega)
        intro v' w5 ae C aQ aX;have af:txnK.row (qs++[(⟨pi,d,pq,Sl ba c.length bk,c⟩:TxnQ)])=txnK.row qs++[G S pi,G S d,G S pq,Sl ba c.length bk]:=by simp[Kind.row];rfl
        have ax:w5.ownsRow (w.heap.size+1) 152 4 v' (qs++[(⟨pi,d,pq,Sl ba c.length bk,c⟩:TxnQ)]).length (txnK.row (qs++[(⟨pi,d,pq,Sl ba c.length bk,c⟩:TxnQ)])):=by rw[af,List.length_append];exact ae
        have aZ:Below w.heap.size w w5:=ap.grown C ap.size (fun j hj=>by have:=(U.lt j hj).1;omega);have am:Cts w5 w.heap.size (nms ((qs++[(⟨pi,d,pq,Sl ba c.length bk,c⟩:TxnQ)]).map Va)):=by
         rw[aW.out];exact an.kept C (fun e=>by have:=(U.lt _ e.symm).1;omega)
        clear ae C aQ aX af U an ap
        go_wp2
        go_roundw
        case rel=>exact⟨i+1,qs++[(⟨pi,d,pq,Sl ba c.length bk,c⟩:TxnQ)],by omega,rfl,by go_num,aT,ax,aV,am,aZ⟩
        case measure=>simp[intOf];omega
   ·have a7:i=rs.length:=by omega
    subst a7;have hE:=HE.out;rw[List.take_of_length_le (by have:=aa.out;omega)]at hE;have hL:qs.length≤16:=by
     have e9:qs.length=(qs.map Va).length:=by simp
     have:=z7z (ps.map Va) [];rw[e9,hE];simp only[Vf,List.length_nil]at this;omega
    have hR:∀q∈qs,txnK.rd w q:=fun q hq=>by
     obtain⟨a9,c9,e9,bq,bf⟩:=h;exact bf q (HM.out q hq)
    have aK:=q6w hO (Nat.le_succ w.heap.size)
    go_wp2
    first|go_ret|(simp only[Exit.jump];go_ret)
    first|exact⟨_,qs,rfl,hE,hL,aK,hR,hb⟩|exact⟨_,rfl,qs,hE,hL,aK,hR,hb⟩
end
theorem z7N{w:World}{base e size n:Nat}{v:Value}{xs:List Value}(h:w.ownsRow base e size v n xs):z8D v:=by
 rcases h.2 with⟨rfl,_⟩|⟨g,c,cur,rfl,_,_,h1,h2,_⟩
 ·exact⟨Vd _,by decide⟩
 ·exact⟨h1,h2⟩
theorem q6R{bs:List TxnD}(h:batF bs=0):∀t∈bs,t.F=0:=by
 unfold batF at h;split at h
 ·exact absurd h (by decide)
 ·split at h
  ·rename_i h1 h2
   exact q0C h2
  ·rename_i h1 h2
   exact absurd h h2
theorem q6S{x:InstE}(h:insF x=0):∀t∈x.batch,t.F=0:=by
 obtain⟨h0,_⟩:=z1Z h;obtain⟨_,_,_,hb0,hb1⟩:=z1r h0
 cases hh:x.has with
 |false=>
  rw[hb0 hh];intro t ht;simp at ht
 |true=>exact q6R (hb1 hh)
theorem q6x{ds:List InstE}(h:∀x∈ds,insF x=0):∀t∈z4v ds,t.F=0:=by
 intro t ht;unfold z4v at ht;obtain⟨x,hx,ht⟩:=List.mem_flatMap.1 ht;split at ht
 ·exact q6S (h x hx) t ht
 ·simp at ht
theorem z3d(n:Int)(h1:-1000≤n)(h2:n≤1000):(Lit.int .i64 n).wf=true:=by
 have e1:IntKind.i64.min=-9223372036854775808:=by decide
 have e2:IntKind.i64.max=9223372036854775807:=by decide
 show(decide (IntKind.i64.min≤n) && decide (n≤IntKind.i64.max))=true;rw[e1,e2,Bool.and_eq_true,decide_eq_true_eq,decide_eq_true_eq];omega
theorem q6T{t:TxnD}(h:t.F=0):1≤t.id∧nmW (nmA t)∧nmW (nmB t):=by
 obtain⟨⟨h1,h2⟩,⟨h3,h4⟩,⟨h5,h6⟩,_⟩:=z3T h;exact⟨h1,⟨z3d t.id (by omega) (by omega),z3d 0 (by decide) (by decide),z3d 0 (by decide) (by decide)⟩,⟨z3d 0 (by decide) (by decide),z3d t.session (by omega) (by omega),z3d t.seq (by omega) (by omega)⟩⟩
theorem q4Q{qs:List TxnQ}(h:∀t∈qs.map Va,t.F=0):nmL TxnQ.n qs≤4*qs.length:=by
 induction qs with
 |nil=>simp[nmL]
 |cons q r ih=>
  have h1:(Va q).F=0:=h _ (by simp);have h2:=(z3T h1).2.2.2.1.2;have h3:q.acts.length≤4:=h2;have:=ih (fun t ht=>h t (by simp only[List.map_cons,List.mem_cons];exact Or.inr ht));simp only[nmL,List.map_cons,List.sum_cons,List.length_cons,TxnQ.n]at this⊢;omega
theorem q2Z{ds:List InstE}(h:∀x∈ds,insF x=0):(z4v ds).length≤4*ds.length:=by
 unfold z4v;induction ds with
 |nil=>simp
 |cons x r ih=>
  have h1:=h x (by simp);have:=ih (fun y hy=>h y (List.mem_cons_of_mem _ hy));simp only[List.flatMap_cons,List.length_append,List.length_cons];have h2:x.batch.length≤4:=by
   obtain⟨h0,_⟩:=z1Z h1;obtain⟨_,_,_,hb0,hb1⟩:=z1r h0
   cases hh:x.has with
   |false=>rw[hb0 hh];simp
   |true=>
    have h3:=hb1 hh;unfold batF at h3;split at h3
    ·exact absurd h3 (by decide)
    ·omega
  split
  ·omega
  ·simp only[List.length_nil];omega
theorem q20:(It.info? 188).map (·.size)=some 2:=by kernel_rfl
theorem q6y{ds:List InstE}(h:∀x∈ds,insF x=0)(m:Nat):∀t∈defL ds m,t.F=0:=by
 intro t ht;rcases z9S _ _ t ht with ht|ht
 ·simp at ht
 ·exact q6x (fun x hx=>h x (List.mem_of_mem_take hx)) t ht
theorem z37(v:Value)(ps:List InstQ)(n:Int)(w:World)(hG:Rul w)(h:instK.At w v ps)(an:z8D v)(hl:(ps.length+nmL Vc ps)≤1048576):
  Calls It 129 #[v,G S n] w fun e w'=>∃ (v':Value) (qs:List TxnQ),e=.returned (.agg #[G S (dfC (ps.map Vb) n),v'])∧qs.map Va=dfT (ps.map Vb) n∧txnK.Own w' v' qs∧(txnK.fp v' qs).Nodup∧(∀k∈txnK.fp v' qs,w.heap.size≤k)∧Below w.heap.size w w':=by
 have hB:Below w.heap.size w (w.alloc (.cells #[G S 0,Sl none 0 0] 188)):=by go_grown
 have Rb:=Blk.new w 188 #[G S 0,Sl none 0 0];have ag:=z17 v ps _ (hG.below hB) (h.below hB) hl;have HO:Hid (ordF (ps.map Vb)=0→ps.length≤4∧∀q∈ps,insF (Vb q)=0):=fun h0=>by
  have:=((z2o _).1 h0).1;rw[Vf]at this;exact⟨this.2,fun q hq=>z1K h0 _ (List.mem_map.2 ⟨q,hq,rfl⟩)⟩
 have HV:Hid (ordF (ps.map Vb)=0→diV (ps.map Vb)=(decN (ps.map Vb):Int)):=fun h0=>if_pos h0
 have hw:=z90 (ps.map Vb) n;have d:Hid _:=hw;clear hw;have aw:decN (ps.map Vb)≤ps.length:=by simpa using q2L (ps.map Vb)
 obtain⟨a,cap,rfl⟩:=h.shape;obtain⟨ao,ap⟩:ps.length≤cap∧cap≤maxLen:=an;generalize dfC (ps.map Vb) n=D at*;generalize dfT (ps.map Vb) n=O at*;generalize ordF (ps.map Vb)=C at*;generalize diV (ps.map Vb)=V at*;generalize decN (ps.map Vb)=M at*;go_enter func129,ntmps129
 go_wp2_with fail
 refine ag.mono ?_;rintro e w1 ⟨rfl,L⟩;replace hB:=hB.trans (L.mono hB.size);replace Rb:=Rb.below L;clear ag L;have T:Below w1.heap.size w1 (w1.alloc (.cells #[G S C,G S V] 184)):=by go_grown
 have Cb:=Blk.new w1 184 #[G S C,G S V];replace hB:=hB.trans (T.mono hB.size);have az:w.heap.size<w1.heap.size:=Rb.lt;replace Rb:=Rb.below T;clear T;by_cases hC:C=0
 ·have hv:=HV.out hC;obtain⟨h4,E⟩:=HO.out hC;have ah:∀p∈ps,insF (Vb p)=0:=E;subst hC;subst hv;clear HV HO;have c1:=Cb.cell 1 _ rfl;have c0:=Cb.cell 0 _ rfl;have ai:=fun w=>z0G n 0 (M:Int) w
  go_wp2_with fail
  clear c0 c1;generalize w1.alloc (.cells #[G S 0,G S M] 184)=X at*;refine(ai X).mono ?_;rintro e w2 ⟨rfl,aa⟩;replace aa:=aa.symm;subst aa;by_cases c:0≤n∧n≤(M:Int)
  ·have W:inW n 0 (M:Int)=true:=by unfold inW;rw[decide_eq_true c.1,decide_eq_true c.2];rfl
   obtain⟨m,rfl⟩:∃m:Nat,n=(m:Int):=⟨n.toNat,by omega⟩
   have hm:m≤ps.length:=by omega
   have E0:Hid (D=0∧O=defL (ps.map Vb) m):=by
    rcases d.out with⟨h0,_⟩|⟨_,h0,_⟩|⟨_,_,h0,h1⟩
    ·exact absurd rfl h0
    ·exact absurd c h0
    ·exact⟨h0,by simpa using h1⟩
   clear d;rw[W];have hT:=h.takeK m hm;have aj:=z91 (Sl a m cap) (ps.take m) X (hG.below hB) (hT.below hB) (fun p hp=>E p (List.mem_of_mem_take hp)) (by rw[List.length_take];omega) (by have:=z2w Vc ps m;rw[List.length_take];omega);have ax:(0:Int)≤(m:Int):=by omega
   have ay:(m:Int)≤(cap:Int):=by omega
   have aq:m≤cap:=by omega
   have ad:Hid (∀ t∈z4v ((ps.take m).map Vb),t.F=0):=q6x (fun x hx=>by
    obtain⟨p,hp,rfl⟩:=List.mem_map.1 hx;exact E p (List.mem_of_mem_take hp))
   have ab:Hid (onc [] (z4v ((ps.take m).map Vb))=defL (ps.map Vb) m):=show _=_ by unfold defL;rw[List.map_take]
   clear ai E ah hT;have av:w.heap.size<X.heap.size:=Rb.lt
   go_wp2_with fail
   refine aj.mono ?_;rintro e w3 ⟨v3,q3,rfl,e3,l3,o3,ak,z⟩;replace Rb:=Rb.below z;have I:=hB.trans (z.mono hB.size);have F3:∀t∈q3.map Va,t.F=0:=fun t ht=>ad.out t (by rw[←e3];exact ht)
   have ae:txnK.At w3 v3 q3:=Kind.at_of_row o3 (fun q hq=>txnK.rd_below (ak q hq) z);have Z:=z8Y v3 q3 w3 ae (z7N o3) l3 (fun p hp=>q6T (t:=Va p) (F3 _ (List.mem_map.2 ⟨p,hp,rfl⟩)));rw[e3,ab.out]at Z;obtain⟨a3,c3,rfl⟩:=z0f o3;clear aj o3 ak ae ad ab z hB
   go_wp2_with fail
   refine Z.mono ?_;rintro e w4 ⟨v4,q4,rfl,e4,l4,o4,al,A⟩;replace Rb:=Rb.below A;have J:=I.trans (A.mono I.size);have F4:∀t∈q4.map Va,t.F=0:=fun t ht=>by
    rw[e4]at ht;rcases z9S _ _ t ht with ht|ht
    ·simp at ht
    ·exact F3 t (by rw[e3,List.map_take];exact ht)
   have af:txnK.At w4 v4 q4:=Kind.at_of_row o4 (fun q hq=>txnK.rd_below (al q hq) A);have U:=z1s v4 q4 w4 af (fun p hp=>by
    have:=(z3T (F4 _ (List.mem_map.2 ⟨p,hp,rfl⟩))).2.2.2.1.1;have h9:1≤p.acts.length:=this;omega) (by have:=q4Q F4;omega)
   rw[e4]at U;obtain⟨a4,c4,rfl⟩:=z0f o4;have au:w.heap.size<w4.heap.size:=Rb.lt;clear Z o4 al af A I F3 F4 e3 e4
   go_wp2_with fail
   refine U.mono ?_;rintro e w5 ⟨v5,q5,rfl,e5,o5,n5,g5,N⟩;replace Rb:=Rb.below N;have am:=J.trans (N.mono J.size);obtain⟨a5,c5,rfl⟩:=o5.shape;have E5:Hid (q5.map Va=O):=show _=_ by rw[E0.out.2];exact e5
   have ED:Hid (D=0):=E0.out.1;clear U N J e5 E0;have KF:=z0m am (Vd w.heap.size) #[G S 0,Sl a5 q5.length c5];have O5:Hid _:=o5.out (z0v _ w.heap.size #[G S 0,Sl a5 q5.length c5]) (fun k hk=>by have:=g5 k hk;simp only[List.mem_singleton];omega);have g6:∀k∈txnK.fp (Sl a5 q5.length c5) q5,w.heap.size≤k:=fun k hk=>by have:=g5 k hk;omega
   have Rr:=Rb.row #[G S 0,Sl a5 q5.length c5]
   go_wp2_with (first|(refine z0s (by kernel_rfl) 188 _ _ rfl _ #[G S 0,Sl a5 q5.length c5] rfl rfl 188 _ Rb q20 rfl (by simp[Value.oneCell']) ?_))
   obtain⟨y0,y1⟩:=Rr.cel2;refine bodyPost_ret (v:=.agg #[G S 0,Sl a5 q5.length c5]) (by simp[results,results129,go_sem,y0,y1]) rfl ?_;exact⟨_,q5,by rw[ED.out],E5.out,O5.out,n5,g6,KF⟩
  ·have W:inW n 0 (M:Int)=false:=by
    unfold inW;rw[Bool.and_eq_false_iff,decide_eq_false_iff_not,decide_eq_false_iff_not];omega
   have E0:Hid (D=3∧O=[]):=by
    rcases d.out with⟨h0,_⟩|⟨_,_,h0,h1⟩|⟨_,h0,_⟩
    ·exact absurd rfl h0
    ·exact⟨h0,h1⟩
    ·exact absurd h0 c
   clear d;rw[W];obtain⟨Y,y⟩:=Kind.own_nil (K:=txnK) (X.setRow w.heap.size #[G S 3,Sl none 0 0]);have KF:=z0m hB (Vd w.heap.size) #[G S 3,Sl none 0 0];have Rr:=Rb.row #[G S 3,Sl none 0 0]
   go_wp2_with (first|(refine z0s (by kernel_rfl) 188 _ _ rfl _ #[G S 3,Sl none 0 0] rfl rfl 188 _ Rb q20 rfl (by simp[Value.oneCell']) ?_))
   obtain⟨y0,y1⟩:=Rr.cel2;refine bodyPost_ret (v:=.agg #[G S 3,Sl none 0 0]) (by simp[results,results129,go_sem,y0,y1]) rfl ?_;exact⟨_,[],by rw[E0.out.1],by rw[E0.out.2];rfl,Y,by rw[y];simp,by rw[y];simp,KF⟩
 ·have E0:Hid (D=C∧O=[]):=by
   rcases d.out with⟨_,h0,h1⟩|⟨h0,_⟩|⟨h0,_⟩
   ·exact⟨h0,h1⟩
   ·exact absurd h0 hC
   ·exact absurd h0 hC
  clear d HV HO;have ar:(C !=0)=true:=by simpa using hC
  obtain⟨c0,c1⟩:=Cb.cel2;obtain⟨Y,y⟩:=Kind.own_nil (K:=txnK) ((w1.alloc (.cells #[G S C,G S V] 184)).setRow w.heap.size #[G S C,Sl none 0 0]);have KF:=z0m hB (Vd w.heap.size) #[G S C,Sl none 0 0];have Rr:=Rb.row #[G S C,Sl none 0 0]
  go_wp2_with (first|(refine z0s (by kernel_rfl) 188 _ _ rfl _ #[G S C,Sl none 0 0] rfl rfl 188 _ Rb q20 rfl (by simp[Value.oneCell']) ?_))
  obtain⟨y0,y1⟩:=Rr.cel2;refine bodyPost_ret (v:=.agg #[G S C,Sl none 0 0]) (by simp[results,results129,go_sem,y0,y1]) rfl ?_;exact⟨_,[],by rw[E0.out.1],by rw[E0.out.2];rfl,Y,by rw[y];simp,by rw[y];simp,KF⟩
theorem q6U{ps:List InstQ}{n:Int}{qs:List TxnQ}(h:qs.map Va=dfT (ps.map Vb) n)(_:ps.length+nmL Vc ps≤1048576):qs.length+nmL TxnQ.n qs≤1048576:=by
 rcases z90 (ps.map Vb) n with⟨_,_,e⟩|⟨_,_,_,e⟩|⟨h0,h1,_,e⟩
 ·rw[e]at h;have:qs=[]:=List.map_eq_nil_iff.1 h;subst this;simp[nmL]
 ·rw[e]at h;have:qs=[]:=List.map_eq_nil_iff.1 h;subst this;simp[nmL]
 ·rw[e]at h;have hF:∀t∈qs.map Va,t.F=0:=fun t ht=>q6y (z1K h0) _ t (by rw[←h];exact ht)
  have h4:=q4Q hF;have h16:qs.length≤16:=by
   have e1:qs.length=(qs.map Va).length:=by simp
   rw[e1,h];have:=z7z (z4v ((ps.map Vb).take n.toNat)) [];have h5:=q2Z (ds:=(ps.map Vb).take n.toNat) (fun x hx=>z1K h0 x (List.mem_of_mem_take hx));have h6:=((z2o _).1 h0).1.2;rw[List.length_take]at h5;unfold defL;simp only[List.length_nil]at this;omega
  omega
theorem q1D(v:Value)(ps:List InstQ)(w:World)(h:instK.At w v ps)(af:(∀p∈ps,(∀t∈p.batch,0<t.acts.length)∧(∀r∈p.rounds,0<r.rep.length∧0<r.pro.length)∧0<p.dec.length))(hl:(ps.length+nmL Vc ps)≤1048576):
  Calls It 114 #[v] w fun e w'=>∃v' qs,e=.returned v'∧qs.map Vb=ps.map Vb∧instK.Own w' v' qs∧(instK.fp v' qs).Nodup∧(∀k∈instK.fp v' qs,w.heap.size≤k)∧Below w.heap.size w w':=by
 obtain⟨a,cap,rfl⟩:=h.shape;obtain⟨i0,hi,av,aw,ax⟩:=info_parts z2Q;have ho:=World.ownsRow_lit (e:=64) (size:=4) w #[] 0 (Vd _) (by decide) rfl;have ag:instK.Own (w.alloc (.cells #[] 64)) (Sl (some ⟨w.heap.size,0,none⟩) 0 0) ([]:List InstQ):=⟨(z0B ho).1,fun p hp=>by simp at hp⟩
 have ae:Below w.heap.size w (w.alloc (.cells #[] 64)):=by go_grown
 have Y:Hid ((instK.fp (Sl (some ⟨w.heap.size,0,none⟩) 0 0) ([]:List InstQ)).Nodup∧∀k∈instK.fp (Sl (some ⟨w.heap.size,0,none⟩) 0 0) ([]:List InstQ),w.heap.size≤k):=by
  refine⟨?_,?_⟩
  ·simp[Kind.fp,blk,Value.ownBlock]
  ·simp[Kind.fp,blk,Value.ownBlock]
 clear ho;go_enter func114,ntmps114
 go_wp2
 go_loopw[3,4] (fun v j wr=>∃ (k:Nat) (qs:List InstQ),k≤ps.length∧j=G S k∧Hid (qs.map Vb=(ps.take k).map Vb)∧instK.Own wr v qs∧Hid ((instK.fp v qs).Nodup∧∀k∈instK.fp v qs,w.heap.size≤k)∧Below w.heap.size w wr) (fun _ j _=>ps.length-(intOf j).toNat)
 case atStart=>exact⟨0,[],Ve _,rfl,(rfl:_=_),ag,Y,ae⟩
 case round=>
  clear Y ag ae;obtain⟨k,qs,hk,rfl,HE,hO,HN,hb⟩:=hrel;obtain⟨sa,sc,rfl⟩:=hO.shape;have aa:Hid (qs.length=k):=by
   have:=congrArg List.length HE.out;rw[Vf,Vf,List.length_take]at this;show qs.length=k;omega
  by_cases J:k<ps.length
  ·obtain⟨b,az,rfl,aE,hc,C⟩:=(h.below hb).cell (by decide) k J;have z:∀j x,(instK.cells ps[k])[j]?=some x→wr.cell? ⟨b,az+k*4+j,none⟩=some x:=hc;have c0:=z 0 (.bool ps[k].has) rfl;have c1:=z 1 ps[k].vb rfl;have c2:=z 2 ps[k].vr rfl;have c3:=z 3 ps[k].vd rfl;rw[Nat.add_zero]at c0;have ay:=z01 Vc ps k J;have d:=af _ (Vi J);have Z:Hid (∀p':InstQ,p'.e=Vb ps[k]→(qs++[p']).map Vb=(ps.take (k+1)).map Vb):=fun p' aq=>by
    rw[List.take_succ_eq_append_getElem J,List.map_append,List.map_append,HE.out,List.map_singleton,List.map_singleton,aq]
   clear hc z;have M:=z6V ps[k];have W:=fun w h=>M w h (by omega) d.1 d.2.1 d.2.2
   clear M HE;generalize ps[k]=p at*;obtain⟨has,vb,T,vr,L,vd,dec⟩:=p;obtain⟨ba,bk,rfl⟩:∃a c,vb=Sl a T.length c:=C.1.shape;obtain⟨va,vk,rfl⟩:∃a c,vr=Sl a L.length c:=C.2.1.shape;obtain⟨da,dk,rfl⟩:∃a c,vd=Sl a dec.length c:=C.2.2.shape;dsimp only at c0 c1 c2 c3 W
   go_wp2_with fail
   clear c0 c1 c2 c3;have X:Hid (∀x∈instK.fp (Sl sa qs.length sc) qs,x<wr.heap.size):=hO.lt;have ab:Hid (w.heap.size≤wr.heap.size):=hb.size;refine(W wr C).mono ?_;rintro e w2 ⟨q,rfl,eq,oq,nq,gq,E⟩;replace hO:=hO.below E;replace hb:=hb.trans (E.mono hb.size);have aD:=E.size;clear W E;obtain⟨qh,aA,qb,aC,qr,aB,qd⟩:=q;obtain⟨x1,y1,rfl⟩:∃a c,aA=Sl a qb.length c:=oq.1.shape;obtain⟨x2,y2,rfl⟩:∃a c,aC=Sl a qr.length c:=oq.2.1.shape;obtain⟨x3,y3,rfl⟩:∃a c,aB=Sl a qd.length c:=oq.2.2.shape;have y:Below w2.heap.size w2 (w2.alloc (.cells #[.bool qh,Sl x1 qb.length y1,Sl x2 qr.length y2,Sl x3 qd.length y3] 64)):=by go_grown
   have U:=hO.below y;have ad:=instK.own_out (F:=[]) oq (Out.of_below y) (fun _ _=>by simp);have I:=hb.trans (y.mono hb.size);have an:wr.heap.size≤(w2.alloc (.cells #[.bool qh,Sl x1 qb.length y1,Sl x2 qr.length y2,Sl x3 qd.length y3] 64)).heap.size:=by have:=y.size;omega
   clear hO oq;have D:=U.1
   go_wp2_with (at_builtin;refine wpList_append_own_at _ rfl _ _ 27 rfl 0 64 i0 (.agg #[.bool false,Sl none 0 0,Sl none 0 0,Sl none 0 0]) 4 80 Tryz.underlying27 hi av aw ax rfl (by decide) _ qs.length (instK.row qs) rfl D ⟨w2.heap.size,0,none⟩ 1 1 [.bool qh,Sl x1 qb.length y1,Sl x2 qr.length y2,Sl x3 qd.length y3] rfl rfl ?c1 ?c2 ?c3 ?c4 ?c5 ?_)
   all_goals try(case c1=>intro j u hj;match j,hj with|0,hj=>simp at hj;subst hj;simp[Addr.add]|1,hj=>simp at hj;subst hj;simp[Addr.add]|2,hj=>simp at hj;subst hj;simp[Addr.add]|3,hj=>simp at hj;subst hj;simp[Addr.add])
   all_goals try(case c2=>intro u hu;simp at hu;rcases hu with rfl|rfl|rfl|rfl<;>rfl)
   all_goals try(case c3=>have:=aa.out;unfold maxLen;omega)
   all_goals try(case c4=>have:=aa.out;omega)
   all_goals try(case c5=>first|omega|simp)
   intro v' w5 O A ai V;clear ai D;rw[show w2.heap.size+1=(w2.alloc (.cells #[.bool qh,Sl x1 qb.length y1,Sl x2 qr.length y2,Sl x3 qd.length y3] 64)).heap.size from(World.size_alloc _ _).symm]at V;generalize ar:w2.alloc (.cells #[.bool qh,Sl x1 qb.length y1,Sl x2 qr.length y2,Sl x3 qd.length y3] 64)=WA at*;clear ar;obtain⟨am,ah,N,aj⟩:=U.snoc (p:=(⟨qh,Sl x1 qb.length y1,qb,Sl x2 qr.length y2,qr,Sl x3 qd.length y3,qd⟩:InstQ)) HN.out.1 HN.out.2 ad nq (fun x hx au=>by have:=X.out x au;have:=gq x hx;omega) (fun x hx=>by have:=gq x hx;have:=ab.out;omega) I.size O A V;have ao:Below w.heap.size w w5:=Out.keep I aj I.size (fun x hx=>HN.out.2 x (by simp only[Kind.fp,List.mem_append];exact Or.inl hx));have ak:Hid ((qs++[(⟨qh,Sl x1 qb.length y1,qb,Sl x2 qr.length y2,qr,Sl x3 qd.length y3,qd⟩:InstQ)]).map Vb=(ps.take (k+1)).map Vb):=Z.out _ eq;have al:Hid ((instK.fp v' (qs++[(⟨qh,Sl x1 qb.length y1,qb,Sl x2 qr.length y2,qr,Sl x3 qd.length y3,qd⟩:InstQ)])).Nodup∧∀k∈instK.fp v' (qs++[(⟨qh,Sl x1 qb.length y1,qb,Sl x2 qr.length y2,qr,Sl x3 qd.length y3,qd⟩:InstQ)]),w.heap.size≤k):=⟨ah,N⟩
   clear Z HN X ab ad U I O A V aj ah N C hb y ay d an gq nq eq
   go_wp2
   go_roundw
   case rel=>exact⟨k+1,_,by omega,by go_num,ak,am,al,ao⟩
   case measure=>simp[intOf];omega
  ·have ap:k=ps.length:=by omega
   subst ap;have hE:=HE.out;rw[List.take_length]at hE;clear HE
   go_wp2
   go_ret;exact⟨_,qs,rfl,hE,hO,HN.out.1,HN.out.2,hb⟩
theorem q5A(q:InstQ):q.n=InstE.n q.e:=by
 unfold InstE.n q07 z9o Vb;simp only[Vc,Vf,nmL,List.map_map];rfl
def z3K(c:Int)(p:USQ):USQ:=⟨p.va,z13 (c) p.us⟩
def nmUs(p:USQ):Nat:=p.us.length*3
theorem z8Z(c:Int)(p:USQ):ussK.foot (z3K c p)=ussK.foot p:=by
 simp only[z3K,show∀p:USQ,ussK.foot p=undoK.fp p.va p.us from fun _=>rfl,z6L]
theorem q21(v:Value)(ps:List USQ)(c:Int)(w:World)(h:ussK.Own w v ps)(ah:(ussK.fp v ps).Nodup)(hl:(ps.length+nmL USQ.n ps)≤1048576)(h0:0≤c)(h1:c+(nmL nmUs ps:Int)≤1099511627776):
  Calls It 53 #[v,G S c] w fun e w'=>e=.returned (G S (c+(nmL nmUs ps:Int)))∧ussK.Own w' v (mkL z3K nmUs c ps)∧Out (ussK.fp v ps) w w':=by
 obtain⟨a,cap,rfl⟩:=h.shape;have I:∀k,k≤ps.length→ussK.fp (Sl a ps.length cap) (half z3K nmUs c ps k)=ussK.fp (Sl a ps.length cap) ps:=fun k hk=>z5z z8Z _ c ps k
 have HF:Hid (∀k,k≤ps.length→ussK.fp (Sl a ps.length cap) (half z3K nmUs c ps k)=ussK.fp (Sl a ps.length cap) ps):=I;have HA:Hid (ussK.Own w (Sl a ps.length cap) (half z3K nmUs c ps 0)):=by rw[z2E];exact h
 clear I h;go_enter func53,ntmps53
 go_wp2
 go_loopw[1,5] (fun j i wr=>∃k:Nat,k≤ps.length∧j=G S (c+(nmL nmUs (ps.take k):Int))∧i=G S k∧Hid (ussK.Own wr (Sl a ps.length cap) (half z3K nmUs c ps k))∧Hid (Out (ussK.fp (Sl a ps.length cap) ps) w wr)) (fun _ i _=>ps.length-(intOf i).toNat)
 case atStart=>exact⟨0,Ve _,by simp[nmL],rfl,HA,Out.refl _ _⟩
 case round=>
  clear HA;obtain⟨k,hk,rfl,rfl,HO,HU⟩:=hrel;by_cases C:k<ps.length
  ·have ap:(half z3K nmUs c ps k).length=ps.length:=z1y _ _ _ _ _ hk;have hO:=HO.out;obtain⟨g,rfl⟩:=hO.blkOf (by omega);have J:(ussK.fp (Sl (some ⟨g,0,none⟩) ps.length cap) (half z3K nmUs c ps k)).Nodup:=by rw[HF.out k hk];exact ah
   have M:Hid (∀x∈ussK.foot ps[k],x∈ussK.fp (Sl (some ⟨g,0,none⟩) ps.length cap) ps):=fun x hx=>by
    simp only[Kind.fp,List.mem_append,List.mem_flatMap];exact Or.inr ⟨_,Vi C,hx⟩
   have ad:Hid (∀x∈[g],x∈ussK.fp (Sl (some ⟨g,0,none⟩) ps.length cap) ps):=fun x hx=>by
    simp only[List.mem_singleton]at hx;subst hx;simp[Kind.fp,blk,Value.ownBlock]
   have W:k<(half z3K nmUs c ps k).length:=by omega
   have A:=z3O z3K nmUs c ps k C;have z:ussK.Own wr (Sl (some ⟨g,0,none⟩) ps.length cap) ((half z3K nmUs c ps k).set k ps[k]):=by
    have e:(half z3K nmUs c ps k).set k ps[k]=half z3K nmUs c ps k:=by
     rw[←A,List.set_getElem_self]
    rw[e];exact hO
   have T:(ussK.fp (Sl (some ⟨g,0,none⟩) ps.length cap) ((half z3K nmUs c ps k).set k ps[k])).Nodup:=by
    have e:(half z3K nmUs c ps k).set k ps[k]=half z3K nmUs c ps k:=by
     rw[←A,List.set_getElem_self]
    rw[e];exact J
   clear A hO J;have L:=z3P z3K nmUs c ps k C;have ak:=z0S nmUs ps k C;have af:=z2w nmUs ps (k+1);have am:=z01 USQ.n ps k C;have U:Hid ((nmL nmUs (ps.take (k+1)):Int)=(nmL nmUs (ps.take k):Int)+(nmUs ps[k]:Int)):=show _=_ by omega
   have al:(nmL nmUs (ps.take k):Int)+(nmUs ps[k]:Int)≤nmL nmUs ps:=by omega
   have E:Hid ((half z3K nmUs c ps k).set k (z3K (c+(nmL nmUs (ps.take k):Int)) ps[k])=half z3K nmUs c ps (k+1)):=L;clear L ak af HO;generalize half z3K nmUs c ps k=hs at*;generalize aj:ps[k]=p at*;clear aj;obtain⟨D,d⟩:=p;have N:k<hs.length:=W;dsimp only[nmUs,USQ.n]at U al am;generalize hy:(nmL nmUs (ps.take k):Int)=y at*;have aq:0≤y:=by omega
   clear hy;obtain⟨c0,f0⟩:=z.cell' N 0 (D) rfl;rw[show k*ussK.size+0=k from by show k*1+0=k;omega]at c0 f0;have V:=z.elem' N;have O:undoK.Own wr D d:=V;have X:=z9w D d (c+y) _ O (by omega) (by omega) (by omega);obtain⟨an,ao,Z⟩:=O.shape;subst Z;clear V O
   go_wp2_with fail
   refine X.mono ?_;rintro e aa ⟨rfl,ag,Y⟩;clear X;obtain⟨ab,ai⟩:=z.turn' T N (⟨Sl an d.length ao,z13 (c+y) d⟩:USQ) Y (fun x hx=>hx) rfl (by exact z6L _ _ _) (ag);have HU:Hid (Out (ussK.fp (Sl (some ⟨g,0,none⟩) ps.length cap) ps) w aa):=HU.out.trans (Y.mono (fun x hx=>M.out x (show x∈ussK.foot _ from(fun x hx=>hx) x hx)));have z:=ab;have T:=ai;have R:Hid (ussK.Own aa (Sl (some ⟨g,0,none⟩) ps.length cap) (half z3K nmUs c ps (k+1))):=by rw[←E.out];exact z
   clear z T E M ad
   go_wp2
   go_roundw
   case rel=>exact⟨k+1,by omega,by rw[U.out];congr 1;omega,by go_num,R.out,HU.out⟩
   case measure=>simp[intOf];omega
  ·have ae:k=ps.length:=by omega
   subst ae;have hO:=HO.out;rw[z3N]at hO;rw[List.take_length];clear HF HO
   go_wp2
   go_ret;exact⟨rfl,hO,HU.out⟩
theorem q22(v:Value)(ps:List USQ)(c:Int)(w:World)(h:ussK.At w v (mkL z3K nmUs c ps))(hl:(ps.length+nmL USQ.n ps)≤1048576)(h0:0≤c)(h1:c+(nmL nmUs ps:Int)≤1099511627776):
  Calls It 99 #[v,G S c] w fun e w'=>e=.returned (G S (c+(nmL nmUs ps:Int)))∧Below w.heap.size w w':=by
 obtain⟨a,cap,rfl⟩:=h.shape;have C:=z0U z3K nmUs c ps;rw[C]at h⊢;have HM:Hid ((mkL z3K nmUs c ps).length=ps.length):=C;clear C;go_enter func99,ntmps99
 go_wp2
 go_loopw[1,5] (fun j i wr=>∃k:Nat,k≤ps.length∧j=G S (c+(nmL nmUs (ps.take k):Int))∧i=G S k∧Below w.heap.size w wr) (fun _ i _=>ps.length-(intOf i).toNat)
 case atStart=>exact⟨0,Ve _,by simp[nmL],rfl,Below.refl _ _⟩
 case round=>
  obtain⟨k,hk,rfl,rfl,hb⟩:=hrel;by_cases A:k<ps.length
  ·have L:k<(mkL z3K nmUs c ps).length:=by have:=HM.out;omega
   obtain⟨b,Y,rfl,Z,hc,M⟩:=(h.below hb).cell (by decide) k L;rw[z4n z3K nmUs c ps k A]at hc M;have V:=z0S nmUs ps k A;have T:=z2w nmUs ps (k+1);have X:=z01 USQ.n ps k A;have D:Hid ((nmL nmUs (ps.take (k+1)):Int)=(nmL nmUs (ps.take k):Int)+(nmUs ps[k]:Int)):=show _=_ by omega
   have W:(nmL nmUs (ps.take k):Int)+(nmUs ps[k]:Int)≤nmL nmUs ps:=by omega
   clear V T h;generalize U:ps[k]=p at*;clear U;obtain⟨z,d⟩:=p;dsimp only[nmUs,USQ.n]at D W X;generalize hy:(nmL nmUs (ps.take k):Int)=y at*;have aa:0≤y:=by omega
   clear hy;have I:∀j x,(ussK.cells (z3K (c+y) (⟨z,d⟩:USQ)))[j]?=some x→wr.cell? ⟨b,Y+k+j,none⟩=some x:=fun j x hx=>by have:=hc j x hx;rwa [show k*ussK.size=k from Nat.mul_one k]at this
   clear hc;have c0:=I 0 (z) rfl;have r0:undoK.At wr z (z13 (c+y) d):=M;have J:=fun w h=>z9x z d (c+y) w h (by omega) (by omega) (by omega)
   obtain⟨ad,ae,N⟩:=r0.shape;subst N;rw[Nat.add_zero]at c0;clear I;have ab:¬(c+y+((d.length*3:Nat):Int)<0):=by omega
   go_wp2_with fail
   refine(J wr r0).mono ?_;rintro e w0 ⟨rfl,E⟩;replace hb:=hb.trans (E.mono hb.size);clear E J c0
   go_wp2
   go_roundw
   case rel=>exact⟨k+1,by omega,by rw[D.out];congr 1;omega,by go_num,hb⟩
   case measure=>simp[intOf];omega
  ·have O:k=ps.length:=by omega
   subst O;rw[List.take_length]
   go_wp2
   go_ret;exact⟨rfl,hb⟩
theorem q0F(ps:List TxnQ):nmL nmTxn ps≤3*(ps.length+nmL TxnQ.n ps):=by
 induction ps with
 |nil=>simp[nmL]
 |cons p r ih=>
  simp only[nmL,List.map_cons,List.sum_cons,List.length_cons]at ih⊢;simp only[nmTxn,TxnQ.n]at ih⊢;omega
theorem q4k(ps:List USQ):nmL nmUs ps≤3*(ps.length+nmL USQ.n ps):=by
 induction ps with
 |nil=>simp[nmL]
 |cons p r ih=>
  simp only[nmL,List.map_cons,List.sum_cons,List.length_cons]at ih⊢;simp only[nmUs,USQ.n]at ih⊢;omega
abbrev q23(c:Int)(ps:List USQ):List USQ:=mkL z3K nmUs c ps
theorem z3e(v:Value)(c:Int)(ps:List USQ):ussK.fp v (q23 c ps)=ussK.fp v ps:=q0l z8Z _ _ _
def z0D(c:Int)(p:NodeQ):NodeQ:=⟨c,c+1,p.vd,z1x (c+1+1) p.done,p.vb,z1f (c+1+1+((nmL nmTxn p.done:Nat):Int)) p.base,p.vt,z1x (c+1+1+((nmL nmTxn p.done:Nat):Int)+((p.base.length*2:Nat):Int)) p.tent,p.vu,q23 (c+1+1+((nmL nmTxn p.done:Nat):Int)+((p.base.length*2:Nat):Int)+((nmL nmTxn p.tent:Nat):Int)) p.undos,p.vn,z1f (c+1+1+((nmL nmTxn p.done:Nat):Int)+((p.base.length*2:Nat):Int)+((nmL nmTxn p.tent:Nat):Int)+((nmL nmUs p.undos:Nat):Int)) p.now⟩
def nmNodS(p:NodeQ):Nat:=1+1+nmL nmTxn p.done+p.base.length*2+nmL nmTxn p.tent+nmL nmUs p.undos+p.now.length*2
theorem z93(c:Int)(p:NodeQ):nodeK.foot (z0D c p)=nodeK.foot p:=by
 simp only[z0D,show∀p:NodeQ,nodeK.foot p=txnK.fp p.vd p.done++(itemK.fp p.vb p.base++(txnK.fp p.vt p.tent++(ussK.fp p.vu p.undos++itemK.fp p.vn p.now)))from fun _=>rfl,z1c,z1B,z1c,z3e,z1B]
theorem z94(v:Value)(ps:List NodeQ)(c:Int)(w:World)(h:nodeK.Own w v ps)(a2:(nodeK.fp v ps).Nodup)(hl:(ps.length+nmL NodeQ.n ps)≤1048576)(h0:0≤c)(h1:c+(nmL nmNodS ps:Int)≤1099511627776):
  Calls It 28 #[v,G S c] w fun e w'=>e=.returned (G S (c+(nmL nmNodS ps:Int)))∧nodeK.Own w' v (mkL z0D nmNodS c ps)∧Out (nodeK.fp v ps) w w':=by
 obtain⟨a,cap,rfl⟩:=h.shape;have ar:∀k,k≤ps.length→nodeK.fp (Sl a ps.length cap) (half z0D nmNodS c ps k)=nodeK.fp (Sl a ps.length cap) ps:=fun k hk=>z5z z93 _ c ps k
 have HF:Hid (∀k,k≤ps.length→nodeK.fp (Sl a ps.length cap) (half z0D nmNodS c ps k)=nodeK.fp (Sl a ps.length cap) ps):=ar;have HA:Hid (nodeK.Own w (Sl a ps.length cap) (half z0D nmNodS c ps 0)):=by rw[z2E];exact h
 clear ar h;go_enter func28,ntmps28
 go_wp2
 go_loopw[1,5] (fun j i wr=>∃k:Nat,k≤ps.length∧j=G S (c+(nmL nmNodS (ps.take k):Int))∧i=G S k∧Hid (nodeK.Own wr (Sl a ps.length cap) (half z0D nmNodS c ps k))∧Hid (Out (nodeK.fp (Sl a ps.length cap) ps) w wr)) (fun _ i _=>ps.length-(intOf i).toNat)
 case atStart=>exact⟨0,Ve _,by simp[nmL],rfl,HA,Out.refl _ _⟩
 case round=>
  clear HA;obtain⟨k,hk,rfl,rfl,HO,HU⟩:=hrel;by_cases ag:k<ps.length
  ·have bd:(half z0D nmNodS c ps k).length=ps.length:=z1y _ _ _ _ _ hk;have hO:=HO.out;obtain⟨g,rfl⟩:=hO.blkOf (by omega);have au:(nodeK.fp (Sl (some ⟨g,0,none⟩) ps.length cap) (half z0D nmNodS c ps k)).Nodup:=by rw[HF.out k hk];exact a2
   have Y:Hid (∀x∈nodeK.foot ps[k],x∈nodeK.fp (Sl (some ⟨g,0,none⟩) ps.length cap) ps):=fun x hx=>by
    simp only[Kind.fp,List.mem_append,List.mem_flatMap];exact Or.inr ⟨_,Vi ag,hx⟩
   have aw:Hid (∀x∈[g],x∈nodeK.fp (Sl (some ⟨g,0,none⟩) ps.length cap) ps):=fun x hx=>by
    simp only[List.mem_singleton]at hx;subst hx;simp[Kind.fp,blk,Value.ownBlock]
   have aK:k<(half z0D nmNodS c ps k).length:=by omega
   have af:=z3O z0D nmNodS c ps k ag;have D:nodeK.Own wr (Sl (some ⟨g,0,none⟩) ps.length cap) ((half z0D nmNodS c ps k).set k ps[k]):=by
    have e:(half z0D nmNodS c ps k).set k ps[k]=half z0D nmNodS c ps k:=by
     rw[←af,List.set_getElem_self]
    rw[e];exact hO
   have I:(nodeK.fp (Sl (some ⟨g,0,none⟩) ps.length cap) ((half z0D nmNodS c ps k).set k ps[k])).Nodup:=by
    have e:(half z0D nmNodS c ps k).set k ps[k]=half z0D nmNodS c ps k:=by
     rw[←af,List.set_getElem_self]
    rw[e];exact au
   clear af hO au;have av:=z3P z0D nmNodS c ps k ag;have a7:=z0S nmNodS ps k ag;have aV:=z2w nmNodS ps (k+1);have ba:=z01 NodeQ.n ps k ag;have aE:Hid ((nmL nmNodS (ps.take (k+1)):Int)=(nmL nmNodS (ps.take k):Int)+(nmNodS ps[k]:Int)):=show _=_ by omega
   have a8:(nmL nmNodS (ps.take k):Int)+(nmNodS ps[k]:Int)≤nmL nmNodS ps:=by omega
   have aq:Hid ((half z0D nmNodS c ps k).set k (z0D (c+(nmL nmNodS (ps.take k):Int)) ps[k])=half z0D nmNodS c ps (k+1)):=av;clear av a7 aV HO;generalize half z0D nmNodS c ps k=hs at*;generalize a6:ps[k]=p at*;clear a6;obtain⟨aT,aj,X,d,W,A,T,C,N,E,M,J⟩:=p;have z:k<hs.length:=aK;dsimp only[nmNodS,NodeQ.n,NodeQ.r,RepQ.n]at aE a8 ba;generalize hy:(nmL nmNodS (ps.take k):Int)=y at*;have be:0≤y:=by omega
   clear hy;obtain⟨c0,f0⟩:=D.cell' z 0 (G S aT) rfl;obtain⟨c1,f1⟩:=D.cell' z 1 (G S aj) rfl;obtain⟨c2,f2⟩:=D.cell' z 2 (X) rfl;have c0:wr.cell? ⟨g,k*7,none⟩=_:=c0;have f0:wr.frozen? ⟨g,k*7,none⟩=_:=f0;have c1:wr.cell? ⟨g,k*7+1,none⟩=_:=c1;have f1:wr.frozen? ⟨g,k*7+1,none⟩=_:=f1;have c2:wr.cell? ⟨g,k*7+2,none⟩=_:=c2;have f2:wr.frozen? ⟨g,k*7+2,none⟩=_:=f2;obtain⟨U,V⟩:=D.store' I z (⟨c+y,aj,X,d,W,A,T,C,N,E,M,J⟩:NodeQ) 0 (G S (c+y)) (by decide) rfl rfl (fun _ h=>h);have D:nodeK.Own (wr.setCell ⟨g,k*7,none⟩ (G S (c+y))) (Sl (some ⟨g,0,none⟩) ps.length cap) (hs.set k (⟨c+y,aj,X,d,W,A,T,C,N,E,M,J⟩:NodeQ)):=U;have I:=V;obtain⟨U,V⟩:=D.store' I z (⟨c+y,c+y+1,X,d,W,A,T,C,N,E,M,J⟩:NodeQ) 1 (G S (c+y+1)) (by decide) rfl rfl (fun _ h=>h);have D:nodeK.Own ((wr.setCell ⟨g,k*7,none⟩ (G S (c+y))).setCell ⟨g,k*7+1,none⟩ (G S (c+y+1))) (Sl (some ⟨g,0,none⟩) ps.length cap) (hs.set k (⟨c+y,c+y+1,X,d,W,A,T,C,N,E,M,J⟩:NodeQ)):=U;have I:=V;have HU:Hid (Out (nodeK.fp (Sl (some ⟨g,0,none⟩) ps.length cap) ps) w ((wr.setCell ⟨g,k*7,none⟩ (G S (c+y))).setCell ⟨g,k*7+1,none⟩ (G S (c+y+1)))):=((HU.out.trans ((Out.setCell _ g (k*7) (G S (c+y))).mono aw.out)).trans ((Out.setCell _ g (k*7+1) (G S (c+y+1))).mono aw.out))
   have aF:=D.elem' z;have ax:txnK.Own ((wr.setCell ⟨g,k*7,none⟩ (G S (c+y))).setCell ⟨g,k*7+1,none⟩ (G S (c+y+1))) X d:=aF.1;have O:=z4x X d (c+y+1+1) _ ax (List.nodup_append.1 (z0l I z)).1 (by omega) (by omega) (by omega);obtain⟨ah,ai,aL⟩:=ax.shape;subst aL;clear aF ax
   go_wp2_with fail
   refine O.mono ?_;rintro e am ⟨rfl,aW,Z⟩;clear O;obtain⟨U,V⟩:=D.turn' I z (⟨c+y,c+y+1,Sl ah d.length ai,z1x (c+y+1+1) d,W,A,T,C,N,E,M,J⟩:NodeQ) Z (fun x hx=>Vh _ hx) rfl (by simp only[show∀p:NodeQ,nodeK.foot p=txnK.fp p.vd p.done++(itemK.fp p.vb p.base++(txnK.fp p.vt p.tent++(ussK.fp p.vu p.undos++itemK.fp p.vn p.now)))from fun _=>rfl,z1c,z1B,z3e]) ((id ⟨aW,(D.elem' z).2.1.out Z (fun k hk=>z06 (z0l I z) k (Vh _ hk)),(D.elem' z).2.2.1.out Z (fun k hk=>z06 (z0l I z) k (Vg _ (Vh _ hk))),(D.elem' z).2.2.2.1.out Z (fun k hk=>z06 (z0l I z) k (Vg _ (Vg _ (Vh _ hk)))),(D.elem' z).2.2.2.2.out Z (fun k hk=>z06 (z0l I z) k (Vg _ (Vg _ (Vg _ hk))))⟩:_∧_∧_∧_∧_));have HU:Hid (Out (nodeK.fp (Sl (some ⟨g,0,none⟩) ps.length cap) ps) w am):=HU.out.trans (Z.mono (fun x hx=>Y.out x (show x∈nodeK.foot _ from(fun x hx=>Vh _ hx) x hx)));have D:=U;have I:=V;obtain⟨c3,f3⟩:=D.cell' z 3 (W) rfl;have c3:am.cell? ⟨g,k*7+3,none⟩=_:=c3;have f3:am.frozen? ⟨g,k*7+3,none⟩=_:=f3;have aG:=D.elem' z;have ay:itemK.Own am W A:=aG.2.1;have O:=z5B W A (c+y+1+1+((nmL nmTxn d:Nat):Int)) _ ay (by omega) (by omega) (by omega);obtain⟨ak,al,aM⟩:=ay.shape;subst aM;clear aG ay
   go_wp2_with fail
   refine O.mono ?_;rintro e an ⟨rfl,aX,aa⟩;clear O;obtain⟨U,V⟩:=D.turn' I z (⟨c+y,c+y+1,Sl ah d.length ai,z1x (c+y+1+1) d,Sl ak A.length al,z1f (c+y+1+1+((nmL nmTxn d:Nat):Int)) A,T,C,N,E,M,J⟩:NodeQ) aa (fun x hx=>Vg _ (Vh _ hx)) rfl (by simp only[show∀p:NodeQ,nodeK.foot p=txnK.fp p.vd p.done++(itemK.fp p.vb p.base++(txnK.fp p.vt p.tent++(ussK.fp p.vu p.undos++itemK.fp p.vn p.now)))from fun _=>rfl,z1c,z1B,z3e]) ((id ⟨(D.elem' z).1.out aa (fun k hk L=>z1u (z0l I z) k hk (Vh _ L)),aX,(D.elem' z).2.2.1.out aa (fun k hk=>z06 (List.nodup_append.1 (z0l I z)).2.1 k (Vh _ hk)),(D.elem' z).2.2.2.1.out aa (fun k hk=>z06 (List.nodup_append.1 (z0l I z)).2.1 k (Vg _ (Vh _ hk))),(D.elem' z).2.2.2.2.out aa (fun k hk=>z06 (List.nodup_append.1 (z0l I z)).2.1 k (Vg _ (Vg _ hk)))⟩:_∧_∧_∧_∧_));have HU:Hid (Out (nodeK.fp (Sl (some ⟨g,0,none⟩) ps.length cap) ps) w an):=HU.out.trans (aa.mono (fun x hx=>Y.out x (show x∈nodeK.foot _ from(fun x hx=>Vg _ (Vh _ hx)) x hx)));have D:=U;have I:=V;obtain⟨c4,f4⟩:=D.cell' z 4 (T) rfl;have c4:an.cell? ⟨g,k*7+4,none⟩=_:=c4;have f4:an.frozen? ⟨g,k*7+4,none⟩=_:=f4;have aH:=D.elem' z;have az:txnK.Own an T C:=aH.2.2.1;have O:=z4x T C (c+y+1+1+((nmL nmTxn d:Nat):Int)+((A.length*2:Nat):Int)) _ az (List.nodup_append.1 (List.nodup_append.1 (List.nodup_append.1 (z0l I z)).2.1).2.1).1 (by omega) (by omega) (by omega);obtain⟨aC,aD,aN⟩:=az.shape;subst aN;clear aH az
   go_wp2_with fail
   refine O.mono ?_;rintro e ao ⟨rfl,aY,ab⟩;clear O;obtain⟨U,V⟩:=D.turn' I z (⟨c+y,c+y+1,Sl ah d.length ai,z1x (c+y+1+1) d,Sl ak A.length al,z1f (c+y+1+1+((nmL nmTxn d:Nat):Int)) A,Sl aC C.length aD,z1x (c+y+1+1+((nmL nmTxn d:Nat):Int)+((A.length*2:Nat):Int)) C,N,E,M,J⟩:NodeQ) ab (fun x hx=>Vg _ (Vg _ (Vh _ hx))) rfl (by simp only[show∀p:NodeQ,nodeK.foot p=txnK.fp p.vd p.done++(itemK.fp p.vb p.base++(txnK.fp p.vt p.tent++(ussK.fp p.vu p.undos++itemK.fp p.vn p.now)))from fun _=>rfl,z1c,z1B,z3e]) ((id ⟨(D.elem' z).1.out ab (fun k hk L=>z1u (z0l I z) k hk (Vg _ (Vh _ L))),(D.elem' z).2.1.out ab (fun k hk L=>z1u (List.nodup_append.1 (z0l I z)).2.1 k hk (Vh _ L)),aY,(D.elem' z).2.2.2.1.out ab (fun k hk=>z06 (List.nodup_append.1 (List.nodup_append.1 (z0l I z)).2.1).2.1 k (Vh _ hk)),(D.elem' z).2.2.2.2.out ab (fun k hk=>z06 (List.nodup_append.1 (List.nodup_append.1 (z0l I z)).2.1).2.1 k (Vg _ hk))⟩:_∧_∧_∧_∧_));have HU:Hid (Out (nodeK.fp (Sl (some ⟨g,0,none⟩) ps.length cap) ps) w ao):=HU.out.trans (ab.mono (fun x hx=>Y.out x (show x∈nodeK.foot _ from(fun x hx=>Vg _ (Vg _ (Vh _ hx))) x hx)));have D:=U;have I:=V;obtain⟨c5,f5⟩:=D.cell' z 5 (N) rfl;have c5:ao.cell? ⟨g,k*7+5,none⟩=_:=c5;have f5:ao.frozen? ⟨g,k*7+5,none⟩=_:=f5;have aI:=D.elem' z;have aA:ussK.Own ao N E:=aI.2.2.2.1;have O:=q21 N E (c+y+1+1+((nmL nmTxn d:Nat):Int)+((A.length*2:Nat):Int)+((nmL nmTxn C:Nat):Int)) _ aA (List.nodup_append.1 (List.nodup_append.1 (List.nodup_append.1 (List.nodup_append.1 (z0l I z)).2.1).2.1).2.1).1 (by omega) (by omega) (by omega);obtain⟨aQ,aR,aO⟩:=aA.shape;subst aO;clear aI aA
   go_wp2_with fail
   refine O.mono ?_;rintro e ap ⟨rfl,aZ,ad⟩;clear O;obtain⟨U,V⟩:=D.turn' I z (⟨c+y,c+y+1,Sl ah d.length ai,z1x (c+y+1+1) d,Sl ak A.length al,z1f (c+y+1+1+((nmL nmTxn d:Nat):Int)) A,Sl aC C.length aD,z1x (c+y+1+1+((nmL nmTxn d:Nat):Int)+((A.length*2:Nat):Int)) C,Sl aQ E.length aR,q23 (c+y+1+1+((nmL nmTxn d:Nat):Int)+((A.length*2:Nat):Int)+((nmL nmTxn C:Nat):Int)) E,M,J⟩:NodeQ) ad (fun x hx=>Vg _ (Vg _ (Vg _ (Vh _ hx)))) rfl (by simp only[show∀p:NodeQ,nodeK.foot p=txnK.fp p.vd p.done++(itemK.fp p.vb p.base++(txnK.fp p.vt p.tent++(ussK.fp p.vu p.undos++itemK.fp p.vn p.now)))from fun _=>rfl,z1c,z1B,z3e]) ((id ⟨(D.elem' z).1.out ad (fun k hk L=>z1u (z0l I z) k hk (Vg _ (Vg _ (Vh _ L)))),(D.elem' z).2.1.out ad (fun k hk L=>z1u (List.nodup_append.1 (z0l I z)).2.1 k hk (Vg _ (Vh _ L))),(D.elem' z).2.2.1.out ad (fun k hk L=>z1u (List.nodup_append.1 (List.nodup_append.1 (z0l I z)).2.1).2.1 k hk (Vh _ L)),aZ,(D.elem' z).2.2.2.2.out ad (fun k hk=>z06 (List.nodup_append.1 (List.nodup_append.1 (List.nodup_append.1 (z0l I z)).2.1).2.1).2.1 k hk)⟩:_∧_∧_∧_∧_));have HU:Hid (Out (nodeK.fp (Sl (some ⟨g,0,none⟩) ps.length cap) ps) w ap):=HU.out.trans (ad.mono (fun x hx=>Y.out x (show x∈nodeK.foot _ from(fun x hx=>Vg _ (Vg _ (Vg _ (Vh _ hx)))) x hx)));have D:=U;have I:=V;obtain⟨c6,f6⟩:=D.cell' z 6 (M) rfl;have c6:ap.cell? ⟨g,k*7+6,none⟩=_:=c6;have f6:ap.frozen? ⟨g,k*7+6,none⟩=_:=f6;have aJ:=D.elem' z;have aB:itemK.Own ap M J:=aJ.2.2.2.2;have O:=z5B M J (c+y+1+1+((nmL nmTxn d:Nat):Int)+((A.length*2:Nat):Int)+((nmL nmTxn C:Nat):Int)+((nmL nmUs E:Nat):Int)) _ aB (by omega) (by omega) (by omega);obtain⟨bb,bc,aP⟩:=aB.shape;subst aP;clear aJ aB
   go_wp2_with fail
   refine O.mono ?_;rintro e aS ⟨rfl,a1,ae⟩;clear O;obtain⟨U,V⟩:=D.turn' I z (⟨c+y,c+y+1,Sl ah d.length ai,z1x (c+y+1+1) d,Sl ak A.length al,z1f (c+y+1+1+((nmL nmTxn d:Nat):Int)) A,Sl aC C.length aD,z1x (c+y+1+1+((nmL nmTxn d:Nat):Int)+((A.length*2:Nat):Int)) C,Sl aQ E.length aR,q23 (c+y+1+1+((nmL nmTxn d:Nat):Int)+((A.length*2:Nat):Int)+((nmL nmTxn C:Nat):Int)) E,Sl bb J.length bc,z1f (c+y+1+1+((nmL nmTxn d:Nat):Int)+((A.length*2:Nat):Int)+((nmL nmTxn C:Nat):Int)+((nmL nmUs E:Nat):Int)) J⟩:NodeQ) ae (fun x hx=>Vg _ (Vg _ (Vg _ (Vg _ (hx))))) rfl (by simp only[show∀p:NodeQ,nodeK.foot p=txnK.fp p.vd p.done++(itemK.fp p.vb p.base++(txnK.fp p.vt p.tent++(ussK.fp p.vu p.undos++itemK.fp p.vn p.now)))from fun _=>rfl,z1c,z1B,z3e]) ((id ⟨(D.elem' z).1.out ae (fun k hk L=>z1u (z0l I z) k hk (Vg _ (Vg _ (Vg _ L)))),(D.elem' z).2.1.out ae (fun k hk L=>z1u (List.nodup_append.1 (z0l I z)).2.1 k hk (Vg _ (Vg _ L))),(D.elem' z).2.2.1.out ae (fun k hk L=>z1u (List.nodup_append.1 (List.nodup_append.1 (z0l I z)).2.1).2.1 k hk (Vg _ L)),(D.elem' z).2.2.2.1.out ae (fun k hk L=>z1u (List.nodup_append.1 (List.nodup_append.1 (List.nodup_append.1 (z0l I z)).2.1).2.1).2.1 k hk L),a1⟩:_∧_∧_∧_∧_));have HU:Hid (Out (nodeK.fp (Sl (some ⟨g,0,none⟩) ps.length cap) ps) w aS):=HU.out.trans (ae.mono (fun x hx=>Y.out x (show x∈nodeK.foot _ from(fun x hx=>Vg _ (Vg _ (Vg _ (Vg _ (hx))))) x hx)));have D:=U;have I:=V;have R:Hid (nodeK.Own aS (Sl (some ⟨g,0,none⟩) ps.length cap) (half z0D nmNodS c ps (k+1))):=by rw[←aq.out];exact D
   clear D I aq Y aw
   go_wp2
   go_roundw
   case rel=>exact⟨k+1,by omega,by rw[aE.out];congr 1;omega,by go_num,R.out,HU.out⟩
   case measure=>simp[intOf];omega
  ·have aU:k=ps.length:=by omega
   subst aU;have hO:=HO.out;rw[z3N]at hO;rw[List.take_length];clear HF HO
   go_wp2
   go_ret;exact⟨rfl,hO,HU.out⟩
theorem z95(v:Value)(ps:List NodeQ)(c:Int)(w:World)(h:nodeK.At w v (mkL z0D nmNodS c ps))(hl:(ps.length+nmL NodeQ.n ps)≤1048576)(h0:0≤c)(h1:c+(nmL nmNodS ps:Int)≤1099511627776):
  Calls It 55 #[v,G S c] w fun e w'=>e=.returned (G S (c+(nmL nmNodS ps:Int)))∧Below w.heap.size w w':=by
 obtain⟨a,cap,rfl⟩:=h.shape;have X:=z0U z0D nmNodS c ps;rw[X]at h⊢;have HM:Hid ((mkL z0D nmNodS c ps).length=ps.length):=X;clear X;go_enter func55,ntmps55
 go_wp2
 go_loopw[1,5] (fun j i wr=>∃k:Nat,k≤ps.length∧j=G S (c+(nmL nmNodS (ps.take k):Int))∧i=G S k∧Below w.heap.size w wr) (fun _ i _=>ps.length-(intOf i).toNat)
 case atStart=>exact⟨0,Ve _,by simp[nmL],rfl,Below.refl _ _⟩
 case round=>
  obtain⟨k,hk,rfl,rfl,hb⟩:=hrel;by_cases W:k<ps.length
  ·have ag:k<(mkL z0D nmNodS c ps).length:=by have:=HM.out;omega
   obtain⟨b,ax,rfl,ay,hc,ah⟩:=(h.below hb).cell (by decide) k ag;rw[z4n z0D nmNodS c ps k W]at hc ah;have au:=z0S nmNodS ps k W;have aq:=z2w nmNodS ps (k+1);have aw:=z01 NodeQ.n ps k W;have Y:Hid ((nmL nmNodS (ps.take (k+1)):Int)=(nmL nmNodS (ps.take k):Int)+(nmNodS ps[k]:Int)):=show _=_ by omega
   have av:(nmL nmNodS (ps.take k):Int)+(nmNodS ps[k]:Int)≤nmL nmNodS ps:=by omega
   clear au aq h;generalize ar:ps[k]=p at*;clear ar;obtain⟨an,ao,M,d,L,z,O,A,T,C,N,E⟩:=p;dsimp only[nmNodS,NodeQ.n,NodeQ.r,RepQ.n]at Y av aw;generalize hy:(nmL nmNodS (ps.take k):Int)=y at*;have az:0≤y:=by omega
   clear hy;have J:∀j x,(nodeK.cells (z0D (c+y) (⟨an,ao,M,d,L,z,O,A,T,C,N,E⟩:NodeQ)))[j]?=some x→wr.cell? ⟨b,ax+k*7+j,none⟩=some x:=hc;clear hc;have c0:=J 0 (G S (c+y)) rfl;have c1:=J 1 (G S (c+y+1)) rfl;have c2:=J 2 (M) rfl;have c3:=J 3 (L) rfl;have c4:=J 4 (O) rfl;have c5:=J 5 (T) rfl;have c6:=J 6 (N) rfl;obtain⟨r2,r3,r4,r5,r6⟩:txnK.At wr M (z1x (c+y+1+1) d)∧itemK.At wr L (z1f (c+y+1+1+((nmL nmTxn d:Nat):Int)) z)∧txnK.At wr O (z1x (c+y+1+1+((nmL nmTxn d:Nat):Int)+((z.length*2:Nat):Int)) A)∧ussK.At wr T (q23 (c+y+1+1+((nmL nmTxn d:Nat):Int)+((z.length*2:Nat):Int)+((nmL nmTxn A:Nat):Int)) C)∧itemK.At wr N (z1f (c+y+1+1+((nmL nmTxn d:Nat):Int)+((z.length*2:Nat):Int)+((nmL nmTxn A:Nat):Int)+((nmL nmUs C:Nat):Int)) E):=ah;have aa:=fun w h=>z4y M d (c+y+1+1) w h (by omega) (by omega) (by omega)
   have ab:=fun w h=>z5C L z (c+y+1+1+((nmL nmTxn d:Nat):Int)) w h (by omega) (by omega) (by omega)
   have ad:=fun w h=>z4y O A (c+y+1+1+((nmL nmTxn d:Nat):Int)+((z.length*2:Nat):Int)) w h (by omega) (by omega) (by omega)
   have ae:=fun w h=>q22 T C (c+y+1+1+((nmL nmTxn d:Nat):Int)+((z.length*2:Nat):Int)+((nmL nmTxn A:Nat):Int)) w h (by omega) (by omega) (by omega)
   have af:=fun w h=>z5C N E (c+y+1+1+((nmL nmTxn d:Nat):Int)+((z.length*2:Nat):Int)+((nmL nmTxn A:Nat):Int)+((nmL nmUs C:Nat):Int)) w h (by omega) (by omega) (by omega)
   obtain⟨aF,aK,ai⟩:=r2.shape;subst ai;obtain⟨aG,aL,aj⟩:=r3.shape;subst aj;obtain⟨aH,aM,ak⟩:=r4.shape;subst ak;obtain⟨aI,aN,al⟩:=r5.shape;subst al;obtain⟨aJ,aO,am⟩:=r6.shape;subst am;rw[Nat.add_zero]at c0;clear J;have aA:¬(c+y+1+1+((nmL nmTxn d:Nat):Int)<0):=by omega
   go_wp2_with fail
   refine(aa wr r2).mono ?_;rintro e w2 ⟨rfl,D⟩;replace hb:=hb.trans (D.mono hb.size);replace c3:=(D.cell (p:=⟨b,_,none⟩) (World.block_lt_of_cell? _ _ c3)).trans c3;replace c4:=(D.cell (p:=⟨b,_,none⟩) (World.block_lt_of_cell? _ _ c4)).trans c4;replace c5:=(D.cell (p:=⟨b,_,none⟩) (World.block_lt_of_cell? _ _ c5)).trans c5;replace c6:=(D.cell (p:=⟨b,_,none⟩) (World.block_lt_of_cell? _ _ c6)).trans c6;replace r3:=r3.below D;replace r4:=r4.below D;replace r5:=r5.below D;replace r6:=r6.below D;clear D aa c0 c1 c2;have aB:¬(c+y+1+1+((nmL nmTxn d:Nat):Int)+((z.length*2:Nat):Int)<0):=by omega
   go_wp2_with fail
   refine(ab w2 r3).mono ?_;rintro e w3 ⟨rfl,I⟩;replace hb:=hb.trans (I.mono hb.size);replace c4:=(I.cell (p:=⟨b,_,none⟩) (World.block_lt_of_cell? _ _ c4)).trans c4;replace c5:=(I.cell (p:=⟨b,_,none⟩) (World.block_lt_of_cell? _ _ c5)).trans c5;replace c6:=(I.cell (p:=⟨b,_,none⟩) (World.block_lt_of_cell? _ _ c6)).trans c6;replace r4:=r4.below I;replace r5:=r5.below I;replace r6:=r6.below I;clear I ab c3;have aC:¬(c+y+1+1+((nmL nmTxn d:Nat):Int)+((z.length*2:Nat):Int)+((nmL nmTxn A:Nat):Int)<0):=by omega
   go_wp2_with fail
   refine(ad w3 r4).mono ?_;rintro e w4 ⟨rfl,U⟩;replace hb:=hb.trans (U.mono hb.size);replace c5:=(U.cell (p:=⟨b,_,none⟩) (World.block_lt_of_cell? _ _ c5)).trans c5;replace c6:=(U.cell (p:=⟨b,_,none⟩) (World.block_lt_of_cell? _ _ c6)).trans c6;replace r5:=r5.below U;replace r6:=r6.below U;clear U ad c4;have aD:¬(c+y+1+1+((nmL nmTxn d:Nat):Int)+((z.length*2:Nat):Int)+((nmL nmTxn A:Nat):Int)+((nmL nmUs C:Nat):Int)<0):=by omega
   go_wp2_with fail
   refine(ae w4 r5).mono ?_;rintro e w5 ⟨rfl,V⟩;replace hb:=hb.trans (V.mono hb.size);replace c6:=(V.cell (p:=⟨b,_,none⟩) (World.block_lt_of_cell? _ _ c6)).trans c6;replace r6:=r6.below V;clear V ae c5;have aE:¬(c+y+1+1+((nmL nmTxn d:Nat):Int)+((z.length*2:Nat):Int)+((nmL nmTxn A:Nat):Int)+((nmL nmUs C:Nat):Int)+((E.length*2:Nat):Int)<0):=by omega
   go_wp2_with fail
   refine(af w5 r6).mono ?_;rintro e w6 ⟨rfl,Z⟩;replace hb:=hb.trans (Z.mono hb.size);clear Z af c6
   go_wp2
   go_roundw
   case rel=>exact⟨k+1,by omega,by rw[Y.out];congr 1;omega,by go_num,hb⟩
   case measure=>simp[intOf];omega
  ·have ap:k=ps.length:=by omega
   subst ap;rw[List.take_length]
   go_wp2
   go_ret;exact⟨rfl,hb⟩
def mkClu(c:Int):CluQ→CluQ
 |⟨vo,ord,vm,mem⟩=>⟨vo,mkL z0C nmInsS c ord,vm,mkL z0D nmNodS (c+((nmL nmInsS ord:Nat):Int)) mem⟩
def nmClu:CluQ→Nat
 |⟨vo,ord,vm,mem⟩=>nmL nmInsS ord+nmL nmNodS mem
theorem z3H(ps:List InstQ):nmL nmInsS ps≤3*(ps.length+nmL Vc ps):=by
 induction ps with
 |nil=>simp[nmL]
 |cons p r ih=>
  have h1:=q4d p.batch;have h2:=q1o p.rounds;simp only[nmL,List.map_cons,List.sum_cons,List.length_cons]at ih⊢;simp only[nmInsS,Vc]at ih⊢;simp only[nmL]at h1 h2 ih⊢;omega
theorem z5Z(ps:List NodeQ):nmL nmNodS ps≤3*(ps.length+nmL NodeQ.n ps):=by
 induction ps with
 |nil=>simp[nmL]
 |cons p r ih=>
  have h1:=q0F p.done;have h2:=q0F p.tent;have h3:=q4k p.undos;simp only[nmL,List.map_cons,List.sum_cons,List.length_cons]at ih⊢;simp only[nmNodS,NodeQ.n,NodeQ.r,RepQ.n]at ih⊢;simp only[nmL]at h1 h2 h3 ih⊢;omega
theorem q0G(p:CluQ):nmClu p≤3*p.n:=by
 obtain⟨vo,ord,vm,mem⟩:=p;have h1:=z3H ord;have h2:=z5Z mem;simp only[nmClu,CluQ.n];omega
theorem q0H{p:CluQ}{c:Int}{w:World}(h:cluK.rd w (mkClu c p)):(∃a k,p.vo=Sl a p.ord.length k)∧(∃a k,p.vm=Sl a p.mem.length k):=by
 obtain⟨vo,ord,vm,mem⟩:=p;obtain⟨h0,h1⟩:instK.At w vo (mkL z0C nmInsS c ord)∧nodeK.At w vm (mkL z0D nmNodS (c+((nmL nmInsS ord:Nat):Int)) mem):=h;obtain⟨a,k,e⟩:=h0.shape;obtain⟨a',k',e'⟩:=h1.shape;rw[z0U]at e e';exact⟨⟨a,k,e⟩,⟨a',k',e'⟩⟩
theorem z38(p:CluQ)(c:Int)(w:World)(h:cluK.own w p)(I:(cluK.foot p).Nodup)(hl:CluQ.n p≤1048576)(h0:0≤c)(h1:c≤1000000000):
  Calls It 10 #[.agg #[p.vo,p.vm],G S c] w fun e w'=>e=.returned (G S (c+(nmClu p:Int)))∧cluK.own w' (mkClu c p)∧Out (cluK.foot p) w w':=by
 obtain⟨vo,d,vm,x⟩:=p;obtain⟨o0,o1⟩:instK.Own w vo d∧nodeK.Own w vm x:=h;obtain⟨n0,n1,x0⟩:=List.nodup_append.1 (show(instK.fp vo d++nodeK.fp vm x).Nodup from I);have J:∀k∈nodeK.fp vm x,k∉instK.fp vo d:=fun k hk z=>x0 k z k hk rfl
 have L:∀k∈instK.fp vo d,k∉nodeK.fp vm x:=fun k z hk=>x0 k z k hk rfl
 clear I x0;dsimp only[CluQ.n]at hl;have t0:=z3H d;have t1:=z5Z x;have A:Hid (∀ {w w':World},Out (instK.fp vo d) w w'→Out (cluK.foot ⟨vo,d,vm,x⟩) w w'):=fun h=>h.mono (fun k hk=>Vh _ hk)
 have C:Hid (∀ {w w':World},Out (nodeK.fp vm x) w w'→Out (cluK.foot ⟨vo,d,vm,x⟩) w w'):=fun h=>h.mono (fun k hk=>Vg _ hk)
 have D:=fun w h=>z5Q vo d c w h n0 (by omega) (by omega) (by omega)
 have E:=fun w h=>z94 vm x (c+((nmL nmInsS d:Nat):Int)) w h n1 (by omega) (by omega) (by omega)
 have e0:∀c,instK.fp vo (mkL z0C nmInsS c d)=instK.fp vo d:=fun c=>q0l z5P _ _ _
 have HR:Hid (∀w',instK.Own w' vo (mkL z0C nmInsS c d)→nodeK.Own w' vm (mkL z0D nmNodS (c+((nmL nmInsS d:Nat):Int)) x)→cluK.own w' (mkClu c ⟨vo,d,vm,x⟩)):=fun w' a b=>⟨a,b⟩
 have HS:Hid ((c+((nmL nmInsS d:Nat):Int)+((nmL nmNodS x:Nat):Int):Int)=c+(nmClu ⟨vo,d,vm,x⟩:Int)):=show _=_ by dsimp only[nmClu];omega
 obtain⟨a0,k0,rfl⟩:=o0.shape;obtain⟨a1,k1,rfl⟩:=o1.shape;have B:=Blk.new w 30 #[Sl a0 d.length k0,Sl a1 x.length k1];have hB:Below w.heap.size w (w.alloc (.cells #[Sl a0 d.length k0,Sl a1 x.length k1] 30)):=by go_grown
 have y:=o0.lt;have HB:Hid (w.heap.size∉instK.fp (Sl a0 d.length k0) d):=fun e=>Nat.lt_irrefl _ (y _ e)
 clear y t0 t1;replace o0:=o0.below hB;replace o1:=o1.below hB;have HU:Hid (Out (cluK.foot ⟨Sl a0 d.length k0,d,Sl a1 x.length k1,x⟩) w _):=Out.of_below hB;clear hB;generalize nmClu ⟨Sl a0 d.length k0,d,Sl a1 x.length k1,x⟩=NR at*;generalize mkClu c ⟨Sl a0 d.length k0,d,Sl a1 x.length k1,x⟩=MR at*;generalize ((nmL nmInsS d:Nat):Int)=C0 at*;generalize ((nmL nmNodS x:Nat):Int)=C1 at*;have p0:=B.cell 0 _ rfl;go_enter func10,ntmps10
 go_wp2_with fail
 generalize w.alloc (.cells #[Sl a0 d.length k0,Sl a1 x.length k1] 30)=W at*;clear p0;refine(D W o0).mono ?_;rintro e w1 ⟨rfl,O0,u0⟩;replace o1:=o1.out u0 J;replace B:Blk w1 _ _ _:=(u0.block _ B.lt HB.out).trans B;have HV:Hid (Out (cluK.foot ⟨Sl a0 d.length k0,d,Sl a1 x.length k1,x⟩) w w1):=HU.out.trans (A.out u0);clear D o0 u0 HU;have q:=B.cell 1 _ rfl
 go_wp2_with fail
 clear q;refine(E w1 o1).mono ?_;rintro e w2 ⟨rfl,O1,u1⟩;replace O0:=O0.out u1 (by rw[e0];exact L);have HU:Hid (Out (cluK.foot ⟨Sl a0 d.length k0,d,Sl a1 x.length k1,x⟩) w w2):=HV.out.trans (C.out u1);have R:=HR.out w2 O0 O1;clear B O0 O1 HB HR A C e0 HV E o1 u1
 go_wp2
 go_ret;exact⟨by rw[HS.out];rfl,R,HU.out⟩
theorem z7O(p:CluQ)(c:Int)(w:World)(h:cluK.rd w (mkClu c p))(hl:CluQ.n p≤1048576)(h0:0≤c)(h1:c≤1000000000):
  Calls It 29 #[.agg #[p.vo,p.vm],G S c] w fun e w'=>e=.returned (G S (c+(nmClu p:Int)))∧Below w.heap.size w w':=by
 obtain⟨vo,d,vm,x⟩:=p;obtain⟨⟨a0,k0,s0⟩,⟨a1,k1,s1⟩⟩:=q0H h;dsimp only at s0 s1;subst s0 s1;obtain⟨o0,o1⟩:instK.At w (Sl a0 d.length k0) (mkL z0C nmInsS c d)∧nodeK.At w (Sl a1 x.length k1) (mkL z0D nmNodS (c+((nmL nmInsS d:Nat):Int)) x):=h;dsimp only[CluQ.n]at hl;have t0:=z3H d;have t1:=z5Z x;have y:=fun w h=>z5R (Sl a0 d.length k0) d c w h (by omega) (by omega) (by omega)
 have z:=fun w h=>z95 (Sl a1 x.length k1) x (c+((nmL nmInsS d:Nat):Int)) w h (by omega) (by omega) (by omega)
 have HS:Hid ((c+((nmL nmInsS d:Nat):Int)+((nmL nmNodS x:Nat):Int):Int)=c+(nmClu ⟨Sl a0 d.length k0,d,Sl a1 x.length k1,x⟩:Int)):=show _=_ by dsimp only[nmClu];omega
 have B:=Blk.new w 30 #[Sl a0 d.length k0,Sl a1 x.length k1];have hB:Below w.heap.size w (w.alloc (.cells #[Sl a0 d.length k0,Sl a1 x.length k1] 30)):=by go_grown
 clear t0 t1;have z0:0≤((nmL nmInsS d:Nat):Int):=by omega
 have z1:0≤((nmL nmNodS x:Nat):Int):=by omega
 generalize nmClu ⟨Sl a0 d.length k0,d,Sl a1 x.length k1,x⟩=NR at*;generalize ((nmL nmInsS d:Nat):Int)=C0 at*;generalize ((nmL nmNodS x:Nat):Int)=C1 at*;have g0:¬c+C0<0:=by omega
 have g1:¬c+C0+C1<0:=by omega
 have p0:=B.cell 0 _ rfl;go_enter func29,ntmps29
 go_wp2_with fail
 generalize w.alloc (.cells #[Sl a0 d.length k0,Sl a1 x.length k1] 30)=W at*;clear p0;refine(y W (o0.below hB)).mono ?_;rintro e w1 ⟨rfl,hb⟩;replace B:=B.below hb;replace hB:=hB.trans (hb.mono hB.size);clear hb y;have q:=B.cell 1 _ rfl
 go_wp2_with fail
 clear q;refine(z w1 (o1.below hB)).mono ?_;rintro e w2 ⟨rfl,hb⟩;replace hB:=hB.trans (hb.mono hB.size);clear hb z
 go_wp2
 go_ret;exact⟨by rw[HS.out];rfl,hB⟩
theorem q24(co an:Int)(p p':CluQ)(w:World)(h:cluK.rd w p)(h':cluK.rd w p')(he:p.e=p'.e)(hl:CluQ.n p≤1048576):
  Calls It 8 #[.agg #[G S co,G S an,p.vo,p.vm],.agg #[G S co,G S an,p'.vo,p'.vm]] w fun e w'=>e=.returned (.bool true)∧Below w.heap.size w w':=by
 have hm:=fun w h h'=>z5L p p' w h h' he hl
 have hr:=fun(w':World) hb=>cluK.rd_below (w':=w') h hb
 have C:=fun(w':World) hb=>cluK.rd_below (w':=w') h' hb
 obtain⟨vo,z,vm,y⟩:=p;obtain⟨a0,k0,rfl⟩:∃a c,vo=Sl a z.length c:=h.1.shape;obtain⟨a1,k1,rfl⟩:∃a c,vm=Sl a y.length c:=h.2.shape;obtain⟨I,x,E,d⟩:=p';obtain⟨b0,m0,rfl⟩:∃a c,I=Sl a x.length c:=h'.1.shape;obtain⟨b1,m1,rfl⟩:∃a c,E=Sl a d.length c:=h'.2.shape;dsimp only at hm;clear he hl;have hB:Below w.heap.size w ((w.alloc (.cells #[G S co,G S an,Sl a0 z.length k0,Sl a1 y.length k1] 32)).alloc (.cells #[G S co,G S an,Sl b0 x.length m0,Sl b1 d.length m1] 32)):=by go_grown
 have B:=(Blk.new w 32 #[G S co,G S an,Sl a0 z.length k0,Sl a1 y.length k1]).below (w':=(w.alloc (.cells #[G S co,G S an,Sl a0 z.length k0,Sl a1 y.length k1] 32)).alloc (.cells #[G S co,G S an,Sl b0 x.length m0,Sl b1 d.length m1] 32)) (by go_grown);have B':=Blk.new (w.alloc (.cells #[G S co,G S an,Sl a0 z.length k0,Sl a1 y.length k1] 32)) 32 #[G S co,G S an,Sl b0 x.length m0,Sl b1 d.length m1];simp only[World.size_alloc]at B';obtain⟨q0,q1,q2,q3⟩:=B.cel4;have s0:=B'.cell 0 _ rfl;have s1:=B'.cell 1 _ rfl;have s2:=B'.cell 2 _ rfl;have s3:=B'.cell 3 _ rfl;have n0:(co !=co)=false:=by simp
 have n1:(an !=an)=false:=by simp
 go_enter func8,ntmps8
 go_wp2_with fail
 clear q0 q1 q2 q3 s0 s1 s2 s3 B B';have D:=hr _ hB;have A:=C _ hB;generalize ((w.alloc (.cells #[G S co,G S an,Sl a0 z.length k0,Sl a1 y.length k1] 32)).alloc (.cells #[G S co,G S an,Sl b0 x.length m0,Sl b1 d.length m1] 32))=W at*;refine(hm W D A).mono ?_;rintro e w3 ⟨rfl,hb⟩;replace hB:=hB.trans (hb.mono hB.size)
 go_wp2
 go_ret;exact⟨rfl,hB⟩
theorem q4l(co an:Int)(p:CluQ)(c:Int)(w:World)(h:cluK.own w p)(hnd:(cluK.foot p).Nodup)(hl:CluQ.n p≤1048576)(h0:0≤c)(h1:c≤1000000000):
  Calls It 11 #[.agg #[G S co,G S an,p.vo,p.vm],G S c] w fun e w'=>e=.returned (G S (c+(nmClu p:Int)))∧cluK.own w' (mkClu c p)∧Out (cluK.foot p) w w':=by
 have hm:=fun w h=>z38 p c w h hnd hl h0 h1
 have hr:=fun(w':World) (hb:Below w.heap.size w w')=>cluK.own_out (F:=[]) (w':=w') h (Out.of_below hb) (fun _ _=>by simp)
 generalize mkClu c p=M at*;generalize nmClu p=NR at*;generalize cluK.foot p=FT at*;obtain⟨vo,ord,vm,mem⟩:=p;obtain⟨a0,k0,rfl⟩:∃a c,vo=Sl a ord.length c:=h.1.shape;obtain⟨a1,k1,rfl⟩:∃a c,vm=Sl a mem.length c:=h.2.shape;dsimp only at hm;have hB:Below w.heap.size w (w.alloc (.cells #[G S co,G S an,Sl a0 ord.length k0,Sl a1 mem.length k1] 32)):=by go_grown
 have B:=Blk.new w 32 #[G S co,G S an,Sl a0 ord.length k0,Sl a1 mem.length k1];obtain⟨q0,q1,q2,q3⟩:=B.cel4;go_enter func11,ntmps11
 go_wp2_with fail
 clear q0 q1 q2 q3 B;have hr0:=hr _ hB;generalize w.alloc (.cells #[G S co,G S an,Sl a0 ord.length k0,Sl a1 mem.length k1] 32)=W at*;refine(hm W hr0).mono ?_;rintro e w1 ⟨rfl,O,u⟩
 go_wp2
 go_ret;exact⟨rfl,O,(Out.of_below hB).trans u⟩
theorem q4m(co an:Int)(p:CluQ)(c:Int)(w:World)(h:cluK.rd w (mkClu c p))(hl:CluQ.n p≤1048576)(h0:0≤c)(h1:c≤1000000000):
  Calls It 12 #[.agg #[G S co,G S an,p.vo,p.vm],G S c] w fun e w'=>e=.returned (G S (c+(nmClu p:Int)))∧Below w.heap.size w w':=by
 have hm:=fun w h=>z7O p c w h hl h0 h1
 have hr:=fun(w':World) hb=>cluK.rd_below (w':=w') h hb
 have hs:=q0H h;generalize mkClu c p=M at*;generalize nmClu p=NR at*;clear hl;obtain⟨vo,ord,vm,mem⟩:=p;obtain⟨⟨a0,k0,s0⟩,⟨a1,k1,s1⟩⟩:=hs;dsimp only at s0 s1;subst s0 s1;dsimp only at hm;have hB:Below w.heap.size w (w.alloc (.cells #[G S co,G S an,Sl a0 ord.length k0,Sl a1 mem.length k1] 32)):=by go_grown
 have B:=Blk.new w 32 #[G S co,G S an,Sl a0 ord.length k0,Sl a1 mem.length k1];obtain⟨q0,q1,q2,q3⟩:=B.cel4;have hg:¬c+(NR:Int)<0:=by omega
 go_enter func12,ntmps12
 go_wp2_with fail
 clear q0 q1 q2 q3 B;have hr0:=hr _ hB;generalize w.alloc (.cells #[G S co,G S an,Sl a0 ord.length k0,Sl a1 mem.length k1] 32)=W at*;refine(hm W hr0).mono ?_;rintro e w1 ⟨rfl,hb⟩;replace hB:=hB.trans (hb.mono hB.size)
 go_wp2
 go_ret;exact⟨rfl,hB⟩
section
open Go.Deep Go.ChangeShapes Go.WideShapes
section
variable {H:Type} {enc:TypeId × Value→H} {w:World} {base:Nat} {spare:Nat→Bool} {held:Bool}
theorem q1E(n:Nat)(l:List Value)(y:DataW H × List MemPlace)(h:DataW.trod enc It w base spare held n 78 l=some y):∃p:InstQ,l=instK.cells p∧instK.rd w p∧InstQ.wf p:=by
 obtain⟨p,e,h1,h2⟩:=z6y h;exact⟨p,e,h1,h2⟩
end
section
variable {H:Type} {enc:TypeId × Value→H} {w:World} {base:Nat} {spare:Nat→Bool} {held:Bool}
theorem z80{P:Program}{t:TypeId}{f0 f1 f2 f3 f4:Field}{fuel:Nat}{cs:List Value}{x:DataW H × List MemPlace}(ht:P.underlying t=some (.struct #[f0,f1,f2,f3,f4]))(h:DataW.trod enc P w base spare held fuel t cs=some x):
  ∃y0 y1 y2 y3 y4 n,cs.length=P.cellsOf t∧DataW.trod enc P w base spare held n f0.type ((cs.drop f0.offset).take (P.cellsOf f0.type))=some y0∧
   DataW.trod enc P w base spare held n f1.type ((cs.drop f1.offset).take (P.cellsOf f1.type))=some y1∧DataW.trod enc P w base spare held n f2.type ((cs.drop f2.offset).take (P.cellsOf f2.type))=some y2∧
   DataW.trod enc P w base spare held n f3.type ((cs.drop f3.offset).take (P.cellsOf f3.type))=some y3∧DataW.trod enc P w base spare held n f4.type ((cs.drop f4.offset).take (P.cellsOf f4.type))=some y4:=by
 obtain⟨xs,n,_,rfl,hl,hlen,hf⟩:=DataW.trod_struct ht h
 match xs,hlen with
 |[y0,y1,y2,y3,y4],_=>exact⟨y0,y1,y2,y3,y4,n,hl,by simpa using hf 0 f0 rfl,by simpa using hf 1 f1 rfl,by simpa using hf 2 f2 rfl,by simpa using hf 3 f3 rfl,by simpa using hf 4 f4 rfl⟩
theorem q25{fuel:Nat}{cs:List Value}{x:DataW H × List MemPlace}(h:DataW.trod enc It w base spare held fuel 224 cs=some x):∃z:ItemD,cs=z.cells:=by
 obtain⟨y0,y1,n,_,hl,h0,h1⟩:=trod_struct2 Tryz.underlying224 h;rw[show It.cellsOf 224=2 by kernel_rfl]at hl;have e:It.cellsOf 2=1:=by kernel_rfl
 match cs,hl with
 |[c0,c1],_=>
  simp only[e,List.drop_zero,List.drop_succ_cons,List.take_succ_cons,List.take_zero]at h0 h1;obtain⟨k,e0,_⟩:=DataW.trod_int Tryz.underlying2 h0;obtain⟨y,e1,_⟩:=DataW.trod_int Tryz.underlying2 h1;simp only[List.cons.injEq,and_true]at e0 e1;exact⟨⟨k,y⟩,by rw[e0,e1];rfl⟩
theorem q26{fuel:Nat}{cs:List Value}{x:DataW H × List MemPlace}(h:DataW.trod enc It w base spare held fuel 271 cs=some x):∃z:UndoD,cs=z.cells:=by
 obtain⟨y0,y1,y2,n,_,hl,h0,h1,h2⟩:=trod_struct3 Tryz.underlying271 h;rw[show It.cellsOf 271=3 by kernel_rfl]at hl;have e:It.cellsOf 2=1:=by kernel_rfl
 have e':It.cellsOf 4=1:=by kernel_rfl
 match cs,hl with
 |[c0,c1,c2],_=>
  simp only[e,e',List.drop_zero,List.drop_succ_cons,List.take_succ_cons,List.take_zero]at h0 h1 h2;obtain⟨k,e0,_⟩:=DataW.trod_int Tryz.underlying2 h0;obtain⟨y,e1,_⟩:=DataW.trod_bool Tryz.underlying4 h1;obtain⟨v,e2,_⟩:=DataW.trod_int Tryz.underlying2 h2;simp only[List.cons.injEq,and_true]at e0 e1 e2;exact⟨⟨k,y,v⟩,by rw[e0,e1,e2];rfl⟩
theorem q1F(n:Nat)(l:List Value)(y:DataW H × List MemPlace)(h:DataW.trod enc It w base spare held n 224 l=some y):∃p:ItemD,l=itemK.cells p∧itemK.rd w p∧True:=by
 obtain⟨z,e⟩:=q25 h;exact⟨z,e,trivial,trivial⟩
theorem z50{fuel:Nat}{cs:List Value}{x:DataW H × List MemPlace}(h:DataW.trod enc It w base spare held fuel 80 cs=some x):
  ∃ (v:Value) (zs:List ItemD),cs=[v]∧itemK.At w v zs∧zs.length≤9223372036854775807:=by
 obtain⟨v,ps,h1,h2,h3,_⟩:=z1H itemK (fun _=>True) Tryz.underlying80 (by kernel_rfl) (by decide) q1F h;exact⟨v,ps,h1,h2,h3⟩
theorem q1G(n:Nat)(l:List Value)(y:DataW H × List MemPlace)(h:DataW.trod enc It w base spare held n 271 l=some y):∃p:UndoD,l=undoK.cells p∧undoK.rd w p∧True:=by
 obtain⟨z,e⟩:=q26 h;exact⟨z,e,trivial,trivial⟩
theorem z96(n:Nat)(l:List Value)(y:DataW H × List MemPlace)(h:DataW.trod enc It w base spare held n 212 l=some y):∃p:USQ,l=ussK.cells p∧ussK.rd w p∧USQ.wf p:=by
 obtain⟨v,ps,h1,h2,h3,_⟩:=z1H undoK (fun _=>True) Tryz.underlying212 (by kernel_rfl) (by decide) q1G h;exact⟨⟨v,ps⟩,h1,h2,h3⟩
theorem q27{fuel:Nat}{cs:List Value}{x:DataW H × List MemPlace}(h:DataW.trod enc It w base spare held fuel 81 cs=some x):
  ∃ (v:Value) (ps:List USQ),cs=[v]∧ussK.At w v ps∧ps.length≤9223372036854775807∧∀p∈ps,USQ.wf p:=
 z1H ussK USQ.wf Tryz.underlying81 (by kernel_rfl) (by decide) z96 h
theorem z7P{fuel:Nat}{cs:List Value}{x:DataW H × List MemPlace}(h:DataW.trod enc It w base spare held fuel 83 cs=some x):
  ∃p:RepQ,cs=[p.vd,p.vb,p.vt,p.vu,p.vn]∧repK.rd w p∧p.wf:=by
 obtain⟨y0,y1,y2,y3,y4,n,hl,h0,h1,h2,h3,h4⟩:=z80 Tryz.underlying83 h;rw[show It.cellsOf 83=5 by kernel_rfl]at hl;have e:It.cellsOf 75=1:=by kernel_rfl
 have e':It.cellsOf 80=1:=by kernel_rfl
 have e2:It.cellsOf 81=1:=by kernel_rfl
 match cs,hl with
 |[c0,c1,c2,c3,c4],_=>
  simp only[e,e',e2,List.drop_zero,List.drop_succ_cons,List.take_succ_cons,List.take_zero]at h0 h1 h2 h3 h4;obtain⟨v0,z0,e0,a0,l0,w0⟩:=z4D h0;obtain⟨v1,z1,e1,a1,l1⟩:=z50 h1;obtain⟨v2,z2,e2,a2,l2,w2⟩:=z4D h2;obtain⟨v3,z3,e3,a3,l3,w3⟩:=q27 h3;obtain⟨v4,z4,e4,a4,l4⟩:=z50 h4;simp only[List.cons.injEq,and_true]at e0 e1 e2 e3 e4;exact⟨⟨v0,z0,v1,z1,v2,z2,v3,z3,v4,z4⟩,by rw[e0,e1,e2,e3,e4],⟨a0,a1,a2,a3,a4⟩,⟨⟨l0,w0⟩,l1,⟨l2,w2⟩,⟨l3,w3⟩,l4⟩⟩
end
section
variable {H:Type} {enc:TypeId × Value→H} {w:World} {base:Nat} {spare:Nat→Bool} {held:Bool}
theorem z6C{fuel:Nat}{cs:List Value}{x:DataW H × List MemPlace}(h:DataW.trod enc It w base spare held fuel 85 cs=some x):
  ∃ (kn sf:Int) (p:RepQ),cs=[G S kn,G S sf,p.vd,p.vb,p.vt,p.vu,p.vn]∧repK.rd w p∧p.wf:=by
 obtain⟨y0,y1,y2,n,_,hl,h0,h1,h2⟩:=trod_struct3 Tryz.underlying85 h;rw[show It.cellsOf 85=7 by kernel_rfl]at hl;have e:It.cellsOf 2=1:=by kernel_rfl
 have e':It.cellsOf 83=5:=by kernel_rfl
 match cs,hl with
 |[c0,c1,c2,c3,c4,c5,c6],_=>
  simp only[e,e',List.drop_zero,List.drop_succ_cons,List.take_succ_cons,List.take_zero]at h0 h1 h2;obtain⟨k,e0,_⟩:=DataW.trod_int Tryz.underlying2 h0;obtain⟨s,e1,_⟩:=DataW.trod_int Tryz.underlying2 h1;obtain⟨p,e2,r,wf⟩:=z7P h2;simp only[List.cons.injEq,and_true]at e0 e1 e2;exact⟨k,s,p,by rw[e0,e1,e2.1,e2.2.1,e2.2.2.1,e2.2.2.2.1,e2.2.2.2.2],r,wf⟩
end
end
end Go.Proofs.YtdppipeclnldeaaGreatDoor

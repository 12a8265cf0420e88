import Derived.Test.YtjjoahhnkpjolaaGreatDoorONAU
set_option linter.unusedVariables false
set_option linter.unusedSimpArgs false
set_option maxRecDepth 100000
set_option maxHeartbeats 8000000
namespace Go.Proofs.YtjjoahhnkpjolaaGreatDoor
open Go.RowKit Go.BigFrame
open TxnQ renaming e->Va
open InstQ renaming e->Vb
open IntKind renaming i64->S
open Value renaming int->G,slice->H
open Go.Proofs.Tryz
section
open Go.Maps
theorem Cts.below{w w':World}{b:Nat}{ns:List Nm}(h:Cts w b ns)(hb:Below w.heap.size w w'):Cts w' b ns:=by
 obtain⟨D,h,hc⟩:=h;have hlt:=h.lt;obtain⟨es,clock,h1,r⟩:=h;exact⟨D,⟨es,clock,(hb.block b hlt).trans h1,r⟩,hc⟩
theorem Cts.drew{w:World}{b:Nat}{ns:List Nm}(h:Cts w b ns):Cts w.drew b ns:=h
theorem z6R{B:Nat}{w w':World}(h:Below B w w'):Below B w w'.drew:=⟨h.os,h.tape,h.output,h.size,h.block⟩
theorem q0r{w:World}{base e size n:Nat}{v:Value}{xs:List Value}(h:w.ownsRow base e size v n xs):w.drew.ownsRow base e size v n xs:=h
theorem q0s{w:World}{b:Nat}{t:TypeId}{cs:Array Value}(h:Blk w b t cs):Blk w.drew b t cs:=h
theorem q2M{w w':World}{M e size n:Nat}{v:Value}{xs:List Value}(h:w.ownsRow (M+1) e size v n xs)(ht:w.mapTurned w' M):w'.ownsRow (M+1) e size v n xs:=by
 refine h.kept ht.grown ?_
 cases hv:v.ownBlock with
 |none=>exact Or.inl rfl
 |some k=>
  have:=(h.lt k hv).1;exact Or.inr (fun e=>by simp at e;omega)
theorem q2N{w w':World}{b M:Nat}{t:TypeId}{cs:Array Value}(h:Blk w b t cs)(ht:w.mapTurned w' M):Blk w' b t cs:=by
 refine h.grown ht.grown (fun e=>?_);obtain⟨es,clock,es',clock',hb,_⟩:=ht;simp only[Option.some.injEq]at e;subst e;have h2:w.heap[b]?=some (.cells cs t):=h;rw[h2]at hb
 cases hb
theorem z8L{B M:Nat}{w0 w w':World}(h:Below B w0 w)(ht:w.mapTurned w' M)(hM:B≤M):Below B w0 w':=by
 have hg:=ht.grown;obtain⟨es,clock,es',clock',hb,rfl⟩:=ht;have hl:M<w.heap.size:=(Array.getElem?_eq_some_iff.1 hb).1;refine⟨hg.os.trans h.os,hg.tape.trans h.tape,hg.output.trans h.output,Nat.le_trans h.size hg.size,fun k hk=>(hg.block k (by omega) (fun e=>?_)).trans (h.block k hk)⟩;simp only[Option.some.injEq]at e;omega
theorem q6o{w:World}{base base' e size n:Nat}{v:Value}{xs:List Value}(h:w.ownsRow base e size v n xs)(hb:base'≤base):w.ownsRow base' e size v n xs:=by
 refine⟨h.1,?_⟩;rcases h.2 with h2|⟨g,cap,cur,hv,hg,hh,r⟩
 ·exact Or.inl h2
 ·exact Or.inr ⟨g,cap,cur,hv,by omega,hh,r⟩
theorem nmX0(a b c d e f:Int)(w:World):(Instr.index 214 (.agg #[G S a,G S b,G S c,G S d,G S e,G S f]) (G S 0)).run Tryz.prog w=.ok (.agg #[G S a,G S b,G S c]) w:=by kernel_rfl
theorem nmX1(a b c d e f:Int)(w:World):(Instr.index 214 (.agg #[G S a,G S b,G S c,G S d,G S e,G S f]) (G S 1)).run Tryz.prog w=.ok (.agg #[G S d,G S e,G S f]) w:=by kernel_rfl
theorem z5S{P:Program}{a:Act}{w:World}{Q:Exit→Act→World→Prop}{c X:Code}(l:Nat)(J:Act→World→Prop)(μ:Act→World→Nat)(hf:findLabel c l=some (Code.skip.seq X))
  (first:(∀a w,J a w→X.wp P (Exit.jump l J Q) a w)→c.wp P (Exit.jump l J Q) a w)
  (pass:∀a w,J a w→X.wp P (Exit.jump l (fun a' w'=>J a' w'∧μ a' w'<μ a w) Q) a w):(Code.scope c).wp P Q a w:=by
 refine wp_scope_jumps l J μ hf (first fun a w h=>?_) (fun a w h=>wp_seq_k fun K hK=>wp_skip (hK _ _ (pass a w h)));refine wp_mono (pass a w h) (fun e a w he=>?_)
 cases e with
 |goto l'=>exact⟨he.1,he.2.1⟩
 |normal=>exact he
 |exit id=>exact he
 |ret=>exact he
 |panic ch=>exact he
 |outgrown=>exact he
theorem q1p{P:Program}{a0:Act}{w0:World}{Q:Exit→Act→World→Prop}{r1 r2 rest:Code}{l:Nat}{J:Act→World→Prop}(hrest:∀a w,J a w→rest.wp P Q a w)(h:∀R:Code,(∀a w,J a w→R.wp P Q a w)→(r1.seq (r2.seq R)).wp P Q a0 w0):(r1.seq (r2.seq ((Code.label l).seq rest))).wp P Q a0 w0:=
 h _ (fun a w hJ=>wp_seq_k fun K hK=>wp_label (hK _ _ (hrest a w hJ)))
def OeW(w:World)(ps:List TxnQ)(v v4:Value)(wr:World):Prop:=∃ (k:Nat) (rs qs:List TxnQ),k≤ps.length∧Hid (rs=ps.drop k)∧txnK.At w v rs∧z8v v∧Hid (qs.map Va=onc [] ((ps.take k).map Va))∧wr.ownsRow (w.heap.size+1) 158 4 v4 qs.length (txnK.row qs)∧Hid (∀q∈qs,q∈ps)∧Cts wr w.heap.size (nms (qs.map Va))∧Below w.heap.size w wr
def OeJ(w:World)(ps:List TxnQ)(a':Act)(w':World):Prop:=∃ (v v4 u5 u6 u7 u8 u9 u10 u11 u12 u13 u14 u15 u16 u17 u18 u19 u20 u21 u22 u23 u24 u25 u26 u27 u28 u29 u30 u31 u32 u33 u34 u35 u36 u37 u38 u39 u40 u41 u42 u43 u44 u45 u46 u47 u48 u49 u50 u51 u52 u53 u54 u55 u56 u57 u58:Value),a'={tmps:=#[v,undef,H none 0 0,.map (some w.heap.size),v4,u5,u6,u7,u8,u9,u10,u11,u12,u13,u14,u15,u16,u17,u18,u19,u20,u21,u22,u23,u24,u25,u26,u27,u28,u29,u30,u31,u32,u33,u34,u35,u36,u37,u38,u39,u40,u41,u42,u43,u44,u45,u46,u47,u48,u49,u50,u51,u52,u53,u54,u55,u56,u57,u58],defers:=[]}∧OeW w ps v v4 w'
def OeM(a':Act)(_:World):Nat:=match a'.tmps.getD 0 undef with| H _ n _=>n|_=>0
theorem z8M(v:Value)(ps:List TxnQ)(w:World)(h:txnK.At w v ps)(aq:z8v v)(hl:ps.length≤16)(hW:∀p∈ps,1≤p.i∧nmW (nmA (Va p))∧nmW (nmB (Va p))):
  Calls Tryz.prog 87 #[v] w fun e w'=>∃ (v':Value) (qs:List TxnQ),e=.returned v'∧qs.map Va=onc [] (ps.map Va)∧qs.length≤16∧w'.ownsRow w.heap.size 158 4 v' qs.length (txnK.row qs)∧(∀q∈qs,txnK.rd w q)∧Below w.heap.size w w':=by
 obtain⟨i0,a6,bg,bh,bi⟩:=info_parts z1y;have bc:=@run_makeMap Tryz.prog;go_enter func87,ntmps87
 go_wp2
 refine z5S 0 (OeJ w ps) OeM rfl ?_ ?_
 ·intro ay;obtain⟨a,cap,rfl⟩:=h.shape;have aw:=Cts.made w;have a1:Below w.heap.size w (w.alloc (.map #[] 0)):=by go_grown
  have be:(w.alloc (.map #[] 0)).ownsRow (w.heap.size+1) 158 4 (H none 0 0) ([]:List TxnQ).length (txnK.row []):=World.ownsRow_nil _ _ _ _;refine q1p ay fun R hR=>?_
  go_wp2
  refine hR _ _ ?_;refine⟨_,_,_,_,_,_,_,_,_,_,_,_,_,_,_,_,_,_,_,_,_,_,_,_,_,_,_,_,_,_,_,_,_,_,_,_,_,_,_,_,_,_,_,_,_,_,_,_,_,_,_,_,_,_,_,_,rfl,0,ps,[],Nat.zero_le _,(rfl:_=_),h,aq,(rfl:_=_),be,fun q hq=>by simp at hq,aw,a1⟩
 ·clear bc;rintro a' w' ⟨v,v4,u5,u6,u7,u8,u9,bz,bA,bB,bC,bD,bE,bF,bG,bH,bI,bJ,bK,bL,bM,bN,bO,bP,bQ,bR,bS,bT,bU,bV,bW,bX,bY,bZ,b0,b1,b2,b3,b4,b5,b6,b7,b8,b9,ca,cb,cc,cd,ce,cf,cg,ch,ci,cj,ck,cl,rfl,k0,rs,bl,bt,aj,hA,aq,aB,ao,aD,aI,aY⟩;obtain⟨a,cap,rfl⟩:=hA.shape;have aa:Hid (rs.length=ps.length-k0):=show _=_ by rw[aj.out,List.length_drop]
  obtain⟨aM,bn⟩:rs.length≤cap∧cap≤maxLen:=aq;obtain⟨bw,bx,rfl⟩:=z0f ao
  go_wp2
  go_loopw[0,4,15] (fun v0 v j wr=>∃ (i:Nat) (qs:List TxnQ),i≤rs.length∧v0=H a rs.length cap∧j=G S i∧Hid (qs.map Va=onc [] ((ps.take (k0+i)).map Va))∧wr.ownsRow (w.heap.size+1) 158 4 v qs.length (txnK.row qs)∧Hid (∀q∈qs,q∈ps)∧Cts wr w.heap.size (nms (qs.map Va))∧Below w.heap.size w wr) (fun _ _ j _=>rs.length-(intOf j).toNat)
  case atStart=>exact⟨0,bl,Nat.zero_le _,rfl,rfl,aB,ao,aD,aI,aY⟩
  case round=>
   clear aB ao aD aI;obtain⟨i,qs,hi,rfl,rfl,HE,hO,HM,hC,hb⟩:=hrel;obtain⟨sa,sc,rfl⟩:=z0f hO;by_cases bb:i<rs.length
   ·have hk:k0+i<ps.length:=by have:=aa.out;omega
    obtain⟨b,Z,rfl,a2,hc,aS⟩:=hA.cell (by decide) i bb;have aR:rs[i]=ps[k0+i]:=by
     obtain rfl:rs=ps.drop k0:=aj.out;simp
    rw[aR]at hc aS;obtain⟨h1,az,aA⟩:=hW _ (List.getElem_mem hk);have HY:Hid (onc [] ((ps.take (k0+i+1)).map Va)=if knw (qs.map Va) (Va ps[k0+i])then qs.map Va else qs.map Va++[Va ps[k0+i]]):=show _=_ by
     rw[HE.out,List.take_succ_eq_append_getElem hk,List.map_append,z19];rfl
    have L:∀j x,(txnK.cells ps[k0+i])[j]?=some x→w.cell? ⟨b,Z+i*4+j,none⟩=some x:=hc;have c0:=z7F (L 0 (G S ps[k0+i].i) rfl) hb;have c1:=z7F (L 1 (G S ps[k0+i].s) rfl) hb;have c2:=z7F (L 2 (G S ps[k0+i].q) rfl) hb;have c3:=z7F (L 3 ps[k0+i].va rfl) hb;rw[Nat.add_zero]at c0;have bm:b<wr.heap.size:=Nat.lt_of_lt_of_le a2 hb.size;have aP:ps[k0+i]∈ps:=List.getElem_mem hk;clear hc L aR;generalize ps[k0+i]=p at*;obtain⟨pi,d,pq,bj,c⟩:=p;have hT:actK.At w bj c:=aS;obtain⟨ba,bk,rfl⟩:=hT.shape;dsimp only at c0 c1 c2 c3 h1;obtain⟨A,E⟩:∃A,A=rs.drop (i+1):=⟨_,rfl⟩
    have aO:A.length=rs.length-(i+1):=by rw[E,List.length_drop]
    obtain⟨ra,rc,bv,aF,M⟩:∃ra rc,(∀u:World,(Instr.slice 52 (H (some ⟨b,Z,none⟩) rs.length cap) (some (G S ((i:Int)+1))) none none).run Tryz.prog u=.ok (H ra A.length rc) u)∧txnK.At w (H ra A.length rc) A∧z8v (H ra A.length rc):=by
     have hd:=hA.dropS (i+1) (by omega) aM (cap-(i+1));rw[←E]at hd;refine⟨_,_,fun u=>?_,hd,⟨by omega,by omega⟩⟩;rw[run_slice_l u 52 (some ⟨b,Z,none⟩) rs.length cap (by kernel_rfl) .i64 ((i:Int)+1) (by omega) (by omega),aO];rfl
    have ad:Hid (A=ps.drop (k0+(i+1))):=show _=_ by rw[E,aj.out,List.drop_drop]
    have ab:Hid (A.length<rs.length):=show _<_ by omega
    have HJ:Hid (knw (qs.map Va) (Va (⟨pi,d,pq,H ba c.length bk,c⟩:TxnQ))=true→qs.map Va=onc [] ((ps.take (k0+(i+1))).map Va)):=fun ar=>by
     have h9:=HY.out;rw[ar]at h9;rw[←Nat.add_assoc,h9];rfl
    clear E aO;obtain⟨BX,aH⟩:∃BX,BX=wr.heap.size:=⟨_,rfl⟩
    have aU:Hid ((nms (qs.map Va)).length≤32):=show _≤_ by
     rw[q2J,HE.out];have:=z7t ((ps.take (k0+i)).map Va) [];simp only[List.length_map,List.length_take,List.length_nil]at this;omega
    have X:Below wr.heap.size wr ((wr.alloc (.cells #[G S pi,G S d,G S pq,H ba c.length bk] 158)).alloc (.cells #[G S pi,G S 0,G S 0,G S 0,G S d,G S pq] 214)):=by go_grown
    have X1:Blk ((wr.alloc (.cells #[G S pi,G S d,G S pq,H ba c.length bk] 158)).alloc (.cells #[G S pi,G S 0,G S 0,G S 0,G S d,G S pq] 214)) wr.heap.size 158 #[G S pi,G S d,G S pq,H ba c.length bk]:=(Blk.new wr 158 #[G S pi,G S d,G S pq,H ba c.length bk]).below (by go_grown);have X2:Blk ((wr.alloc (.cells #[G S pi,G S d,G S pq,H ba c.length bk] 158)).alloc (.cells #[G S pi,G S 0,G S 0,G S 0,G S d,G S pq] 214)) (wr.heap.size+1) 214 #[G S pi,G S 0,G S 0,G S 0,G S d,G S pq]:=by
     have:=Blk.new (wr.alloc (.cells #[G S pi,G S d,G S pq,H ba c.length bk] 158)) 214 #[G S pi,G S 0,G S 0,G S 0,G S d,G S pq];simpa using this
    have V:=z0c hO X;have O:Cts ((wr.alloc (.cells #[G S pi,G S d,G S pq,H ba c.length bk] 158)).alloc (.cells #[G S pi,G S 0,G S 0,G S 0,G S d,G S pq] 214)) w.heap.size (nms (qs.map Va)):=hC.below X;have z:=hb.trans (X.mono hb.size)
    go_wp2
    clear X c0 c1 c2 c3 hb hO hC;rw[←aH]at X1;generalize (wr.alloc (.cells #[G S pi,G S d,G S pq,H ba c.length bk] 158)).alloc (.cells #[G S pi,G S 0,G S 0,G S 0,G S d,G S pq] 214)=Y at*;go_loopw[0,30] (fun v0 j wy=>∃m:Nat,m≤2∧v0=H (some ⟨b,Z,none⟩) rs.length cap∧j=G S m∧Hid (1≤m→(nms (qs.map Va)).count (pi,0,0)=0)∧Hid (2≤m→(nms (qs.map Va)).count (0,d,pq)=0)∧Below Y.heap.size Y wy) (fun _ j _=>2-(intOf j).toNat)
    case atStart=>exact⟨0,Nat.zero_le _,rfl,rfl,fun h=>by omega,fun h=>by omega,Below.refl _ _⟩
    case round=>
     obtain⟨m,hm,rfl,rfl,HA,HB,y⟩:=hrel;have T:=O.below y;have au:=fun o=>(T.kept (row:=none) (World.grownBy_alloc wr o none) (by simp)).look az
     have av:=fun o=>(T.kept (row:=none) (World.grownBy_alloc wr o none) (by simp)).look aA
     simp only[nmV,nmA,nmB,Va]at au av;have br:=nmX0 pi 0 0 0 d pq;have bs:=nmX1 pi 0 0 0 d pq;replace X2:=X2.below y;obtain rfl|rfl|rfl:m=0∨m=1∨m=2:=by omega
     ·by_cases hp:0<(nms (qs.map Va)).count (pi,0,0)
      ·have ah:Hid (knw (qs.map Va) (Va (⟨pi,d,pq,H ba c.length bk,c⟩:TxnQ))=true):=(z9O (acc:=qs.map Va) (t:=Va (⟨pi,d,pq,H ba c.length bk,c⟩:TxnQ)) (fun x hx=>by obtain⟨q,hq,rfl⟩:=List.mem_map.1 hx;exact(hW q (HM.out q hq)).1) h1).2 (Or.inl hp)
       go_wp2
       refine wp_goto ?_;refine⟨rfl,⟨_,_,_,_,_,_,_,_,_,_,_,_,_,_,_,_,_,_,_,_,_,_,_,_,_,_,_,_,_,_,_,_,_,_,_,_,_,_,_,_,_,_,_,_,_,_,_,_,_,_,_,_,_,_,_,_,rfl,k0+(i+1),A,qs,by omega,ad,aF,M,HJ.out ah.out,z0c (z0c V y) (by go_grown),HM,(O.below y).below (by go_grown),z.trans ((y.alloc y.size _).mono z.size)⟩,?_⟩;exact ab.out
      ·have hz:(nms (qs.map Va)).count (pi,0,0)=0:=by omega
       rw[hz]at au
       go_wp2
       go_roundw
       case rel=>exact⟨1,by omega,rfl,by go_num,fun _=>hz,fun h=>by omega,y.alloc y.size _⟩
       case measure=>simp[intOf]
     ·have N:=HA.out (by omega);by_cases hp:0<(nms (qs.map Va)).count (0,d,pq)
      ·have ah:Hid (knw (qs.map Va) (Va (⟨pi,d,pq,H ba c.length bk,c⟩:TxnQ))=true):=(z9O (acc:=qs.map Va) (t:=Va (⟨pi,d,pq,H ba c.length bk,c⟩:TxnQ)) (fun x hx=>by obtain⟨q,hq,rfl⟩:=List.mem_map.1 hx;exact(hW q (HM.out q hq)).1) h1).2 (Or.inr hp)
       go_wp2
       refine wp_goto ?_;refine⟨rfl,⟨_,_,_,_,_,_,_,_,_,_,_,_,_,_,_,_,_,_,_,_,_,_,_,_,_,_,_,_,_,_,_,_,_,_,_,_,_,_,_,_,_,_,_,_,_,_,_,_,_,_,_,_,_,_,_,_,rfl,k0+(i+1),A,qs,by omega,ad,aF,M,HJ.out ah.out,z0c (z0c V y) (by go_grown),HM,(O.below y).below (by go_grown),z.trans ((y.alloc y.size _).mono z.size)⟩,?_⟩;exact ab.out
      ·have hz:(nms (qs.map Va)).count (0,d,pq)=0:=by omega
       rw[hz]at av
       go_wp2
       go_roundw
       case rel=>exact⟨2,by omega,rfl,by go_num,fun _=>N,fun _=>hz,y.alloc y.size _⟩
       case measure=>simp[intOf]
     ·have N:=HA.out (by omega);have aG:=HB.out (by omega);obtain⟨x0,x1,x2,x3,x4,x5⟩:=X2.cel6;replace X1:=X1.below y;have aL:=z0c V y;replace z:=z.trans (y.mono z.size)
      go_wp2
      clear x0 x1 x2 x3 x4 x5 X2 au av HA HB y O V;have a8:(nms (qs.map Va)).length≤32:=aU.out;have aN:knw (qs.map Va) (Va (⟨pi,d,pq,H ba c.length bk,c⟩:TxnQ))=false:=by
       cases ar:knw (qs.map Va) (Va (⟨pi,d,pq,H ba c.length bk,c⟩:TxnQ))with
       |false=>rfl
       |true=>
        have h9:=(z9O (acc:=qs.map Va) (t:=Va (⟨pi,d,pq,H ba c.length bk,c⟩:TxnQ)) (fun x hx=>by obtain⟨q,hq,rfl⟩:=List.mem_map.1 hx;exact(hW q (HM.out q hq)).1) h1).1 ar;have bo:(nms (qs.map Va)).count (nmA (Va (⟨pi,d,pq,H ba c.length bk,c⟩:TxnQ)))=0:=N;have bp:(nms (qs.map Va)).count (nmB (Va (⟨pi,d,pq,H ba c.length bk,c⟩:TxnQ)))=0:=aG;omega
      have aT:Hid ((qs++[(⟨pi,d,pq,H ba c.length bk,c⟩:TxnQ)]).map Va=onc [] ((ps.take (k0+(i+1))).map Va)):=show _=_ by
       have h9:=HY.out;rw[aN]at h9;rw[←Nat.add_assoc,h9];simp
      have aV:Hid (∀q∈qs++[(⟨pi,d,pq,H ba c.length bk,c⟩:TxnQ)],q∈ps):=fun q hq=>by
       rcases List.mem_append.1 hq with hq|hq
       ·exact HM.out q hq
       ·rw[List.mem_singleton.1 hq];exact aP
      have aC:Hid (qs.length≤16):=show _≤_ by
       have h9:=a8;rw[q2J]at h9;simp at h9;omega
      have aW:Hid (nms ((qs++[(⟨pi,d,pq,H ba c.length bk,c⟩:TxnQ)]).map Va)=nms (qs.map Va)++[(pi,0,0),(0,d,pq)]):=show _=_ by
       rw[List.map_append];exact(q39 _ _).trans (by simp[nmA,nmB,Va])
      clear aN HY;generalize bu:nms (qs.map Va)=ns at*;go_loopw[43] (fun j wz=>∃m:Nat,m≤2∧j=G S m∧Cts wz w.heap.size (ns++[(pi,0,0),(0,d,pq)].take m)∧wz.ownsRow (w.heap.size+1) 158 4 (H sa qs.length sc) qs.length (txnK.row qs)∧Blk wz BX 158 #[G S pi,G S d,G S pq,H ba c.length bk]∧Below w.heap.size w wz) (fun j _=>2-(intOf j).toNat)
      case atStart=>exact⟨0,Nat.zero_le _,rfl,by simpa using T,aL,X1,z⟩
      case round=>
       clear T aL X1 z;obtain⟨m,hm,rfl,J,W,X1,z⟩:=hrel;obtain rfl|rfl|rfl:m=0∨m=1∨m=2:=by omega
       ·simp only[List.take_zero,List.append_nil]at J;have I:Cts (wr.alloc (.cells #[G S pi,G S 0,G S 0] 213)).drew w.heap.size ns:=(J.kept (row:=none) (World.grownBy_alloc wr (.cells #[G S pi,G S 0,G S 0] 213) none) (by simp)).drew;have e0:=I.look az;obtain⟨v0,st,w1,w3,e1,e2,e3,t1,t3,al⟩:=I.inc az (by omega);have z1:((0:Nat):Int)+1=1:=rfl;simp only[nmV,nmA,Va,N,z1]at e0 e1 e2 e3;have ai:Hid (w3.ownsRow (w.heap.size+1) 158 4 (H sa qs.length sc) qs.length (txnK.row qs)):=q2M (q0r (z0c W (by go_grown))) t3;have ak:Hid (Blk w3 BX 158 #[G S pi,G S d,G S pq,H ba c.length bk]):=q2N (q0s (X1.below (by go_grown))) t3;have ag:Hid (Below w.heap.size w w3):=z8L (z6R (z.alloc z.size _)) t3 (Nat.le_refl _);clear t1 t3
        go_wp2
        go_region
        go_wp2
        go_roundw
        case rel=>exact⟨1,by omega,by go_num,al,ai.out,ak.out,ag.out⟩
        case measure=>simp[intOf]
       ·have bd:(ns++[(pi,0,0)]).count (0,d,pq)=0:=by
         rw[List.count_append,aG];have:[(pi,(0:Int),(0:Int))].count (0,d,pq)=0:=List.count_eq_zero.2 (by simp;omega);omega
        have aJ:Cts wr w.heap.size (ns++[(pi,0,0)]):=J;have I:Cts (wr.alloc (.cells #[G S 0,G S d,G S pq] 213)).drew w.heap.size (ns++[(pi,0,0)]):=(aJ.kept (row:=none) (World.grownBy_alloc wr (.cells #[G S 0,G S d,G S pq] 213) none) (by simp)).drew;have e0:=I.look aA;obtain⟨v0,st,w1,w3,e1,e2,e3,t1,t3,al⟩:=I.inc aA (by simp;omega);have z1:((0:Nat):Int)+1=1:=rfl;have am:Cts w3 w.heap.size (ns++[(pi,0,0),(0,d,pq)]):=by
         have e9:ns++[(pi,0,0)]++[(0,d,pq)]=ns++[(pi,0,0),(0,d,pq)]:=by simp
         rw[←e9];exact al
        simp only[nmV,nmB,Va,bd,z1]at e0 e1 e2 e3;have ai:Hid (w3.ownsRow (w.heap.size+1) 158 4 (H sa qs.length sc) qs.length (txnK.row qs)):=q2M (q0r (z0c W (by go_grown))) t3;have ak:Hid (Blk w3 BX 158 #[G S pi,G S d,G S pq,H ba c.length bk]):=q2N (q0s (X1.below (by go_grown))) t3;have ag:Hid (Below w.heap.size w w3):=z8L (z6R (z.alloc z.size _)) t3 (Nat.le_refl _);clear t1 t3
        go_wp2
        go_region
        go_wp2
        go_roundw
        case rel=>exact⟨2,by omega,by go_num,am,ai.out,ak.out,ag.out⟩
        case measure=>simp[intOf]
       ·rw[aH]at X1;obtain⟨y0,y1,y2,y3⟩:=X1.cel4;have D:Below wr.heap.size wr (wr.alloc (.cells #[G S pi,G S d,G S pq,H ba c.length bk] 158)):=by go_grown
        have U:=z0c W D;have an:Cts (wr.alloc (.cells #[G S pi,G S d,G S pq,H ba c.length bk] 158)) w.heap.size (ns++[(pi,0,0),(0,d,pq)]):=Cts.below (w:=wr) J D;have ap:=z.trans (D.mono z.size);have aE:Hid (qs.length≤16):=aC;clear W J z X1 D
        go_wp2_with (at_builtin;refine wpList_append_own_at _ rfl _ _ 52 rfl (w.heap.size+1) 158 i0 (.agg #[G S 0,G S 0,G S 0,H none 0 0]) 4 48 Tryz.underlying52 a6 bg bh bi rfl (by decide) _ qs.length (txnK.row qs) rfl U ⟨wr.heap.size,0,none⟩ 1 1 [G S pi,G S d,G S pq,H ba c.length bk] rfl rfl ?c1 ?c2 ?c3 ?c4 ?c5 ?_)
        all_goals try(case c1=>intro j u hj;match j,hj with|0,hj=>simp at hj;subst hj;simp[Addr.add]|1,hj=>simp at hj;subst hj;simp[Addr.add]|2,hj=>simp at hj;subst hj;simp[Addr.add]|3,hj=>simp at hj;subst hj;simp[Addr.add])
        all_goals try(case c2=>intro u hu;simp at hu;rcases hu with rfl|rfl|rfl|rfl<;>rfl)
        all_goals try(case c3=>have:=aE.out;unfold maxLen;omega)
        all_goals try(case c4=>have:=aE.out;omega)
        all_goals try(case c5=>have:=an.lt;omega)
        intro v' w5 ae C aQ aX;have af:txnK.row (qs++[(⟨pi,d,pq,H ba c.length bk,c⟩:TxnQ)])=txnK.row qs++[G S pi,G S d,G S pq,H ba c.length bk]:=by simp[Kind.row];rfl
        have ax:w5.ownsRow (w.heap.size+1) 158 4 v' (qs++[(⟨pi,d,pq,H ba c.length bk,c⟩:TxnQ)]).length (txnK.row (qs++[(⟨pi,d,pq,H ba c.length bk,c⟩:TxnQ)])):=by rw[af,List.length_append];exact ae
        have aZ:Below w.heap.size w w5:=ap.grown C ap.size (fun j hj=>by have:=(U.lt j hj).1;omega);have am:Cts w5 w.heap.size (nms ((qs++[(⟨pi,d,pq,H ba c.length bk,c⟩:TxnQ)]).map Va)):=by
         rw[aW.out];exact an.kept C (fun e=>by have:=(U.lt _ e.symm).1;omega)
        clear ae C aQ aX af U an ap
        go_wp2
        go_roundw
        case rel=>exact⟨i+1,qs++[(⟨pi,d,pq,H ba c.length bk,c⟩:TxnQ)],by omega,rfl,by go_num,aT,ax,aV,am,aZ⟩
        case measure=>simp[intOf];omega
   ·have a7:i=rs.length:=by omega
    subst a7;have hE:=HE.out;rw[List.take_of_length_le (by have:=aa.out;omega)]at hE;have hL:qs.length≤16:=by
     have e9:qs.length=(qs.map Va).length:=by simp
     have:=z7t (ps.map Va) [];rw[e9,hE];simp only[List.length_map,List.length_nil]at this;omega
    have hR:∀q∈qs,txnK.rd w q:=fun q hq=>by
     obtain⟨a9,c9,e9,bq,bf⟩:=h;exact bf q (HM.out q hq)
    have aK:=q6o hO (Nat.le_succ w.heap.size)
    go_wp2
    first|go_ret|(simp only[Exit.jump];go_ret)
    first|exact⟨_,qs,rfl,hE,hL,aK,hR,hb⟩|exact⟨_,rfl,qs,hE,hL,aK,hR,hb⟩
end
theorem q2O{w:World}{base e size n:Nat}{v:Value}{xs:List Value}(h:w.ownsRow base e size v n xs):z8v v:=by
 rcases h.2 with⟨rfl,_⟩|⟨g,c,cur,rfl,_,_,h1,h2,_⟩
 ·exact⟨Nat.le_refl _,by decide⟩
 ·exact⟨h1,h2⟩
theorem q6K{bs:List TxnD}(h:batF bs=0):∀t∈bs,t.F=0:=by
 unfold batF at h;split at h
 ·exact absurd h (by decide)
 ·split at h
  ·rename_i h1 h2
   exact q0q h2
  ·rename_i h1 h2
   exact absurd h h2
theorem q6L{x:InstE}(h:insF x=0):∀t∈x.batch,t.F=0:=by
 obtain⟨h0,_⟩:=z10 h;obtain⟨_,_,_,hb0,hb1⟩:=z1p h0
 cases hh:x.has with
 |false=>
  rw[hb0 hh];intro t ht;simp at ht
 |true=>exact q6K (hb1 hh)
theorem q6p{ds:List InstE}(h:∀x∈ds,insF x=0):∀t∈z4p ds,t.F=0:=by
 intro t ht;unfold z4p at ht;obtain⟨x,hx,ht⟩:=List.mem_flatMap.1 ht;split at ht
 ·exact q6L (h x hx) t ht
 ·simp at ht
theorem z29(n:Int)(h1:-1000≤n)(h2:n≤1000):(Lit.int .i64 n).wf=true:=by
 have e1:IntKind.i64.min=-9223372036854775808:=by decide
 have e2:IntKind.i64.max=9223372036854775807:=by decide
 show(decide (IntKind.i64.min≤n) && decide (n≤IntKind.i64.max))=true;rw[e1,e2,Bool.and_eq_true,decide_eq_true_eq,decide_eq_true_eq];omega
theorem q6M{t:TxnD}(h:t.F=0):1≤t.id∧nmW (nmA t)∧nmW (nmB t):=by
 obtain⟨⟨h1,h2⟩,⟨h3,h4⟩,⟨h5,h6⟩,_⟩:=z3R h;exact⟨h1,⟨z29 t.id (by omega) (by omega),z29 0 (by decide) (by decide),z29 0 (by decide) (by decide)⟩,⟨z29 0 (by decide) (by decide),z29 t.session (by omega) (by omega),z29 t.seq (by omega) (by omega)⟩⟩
theorem q4I{qs:List TxnQ}(h:∀t∈qs.map Va,t.F=0):nmL TxnQ.n qs≤4*qs.length:=by
 induction qs with
 |nil=>simp[nmL]
 |cons q r ih=>
  have h1:(Va q).F=0:=h _ (by simp);have h2:=(z3R h1).2.2.2.1.2;have h3:q.acts.length≤4:=h2;have:=ih (fun t ht=>h t (by simp only[List.map_cons,List.mem_cons];exact Or.inr ht));simp only[nmL,List.map_cons,List.sum_cons,List.length_cons,TxnQ.n]at this⊢;omega
theorem q2P{ds:List InstE}(h:∀x∈ds,insF x=0):(z4p ds).length≤4*ds.length:=by
 unfold z4p;induction ds with
 |nil=>simp
 |cons x r ih=>
  have h1:=h x (by simp);have:=ih (fun y hy=>h y (List.mem_cons_of_mem _ hy));simp only[List.flatMap_cons,List.length_append,List.length_cons];have h2:x.batch.length≤4:=by
   obtain⟨h0,_⟩:=z10 h1;obtain⟨_,_,_,hb0,hb1⟩:=z1p h0
   cases hh:x.has with
   |false=>rw[hb0 hh];simp
   |true=>
    have h3:=hb1 hh;unfold batF at h3;split at h3
    ·exact absurd h3 (by decide)
    ·omega
  split
  ·omega
  ·simp only[List.length_nil];omega
theorem q2Q:(Tryz.prog.info? 99).map (·.size)=some 2:=by kernel_rfl
theorem q6q{ds:List InstE}(h:∀x∈ds,insF x=0)(m:Nat):∀t∈defL ds m,t.F=0:=by
 intro t ht;rcases z9F _ _ t ht with ht|ht
 ·simp at ht
 ·exact q6p (fun x hx=>h x (List.mem_of_mem_take hx)) t ht
theorem z30(v:Value)(ps:List InstQ)(n:Int)(w:World)(hG:Rul w)(h:instK.At w v ps)(an:z8v v)(hl:(ps.length+nmL InstQ.n ps)≤1048576):
  Calls Tryz.prog 50 #[v,G S n] w fun e w'=>∃ (v':Value) (qs:List TxnQ),e=.returned (.agg #[G S (dfC (ps.map Vb) n),v'])∧qs.map Va=dfT (ps.map Vb) n∧txnK.Own w' v' qs∧(txnK.fp v' qs).Nodup∧(∀k∈txnK.fp v' qs,w.heap.size≤k)∧Below w.heap.size w w':=by
 have hB:Below w.heap.size w (w.alloc (.cells #[G S 0,H none 0 0] 99)):=by go_grown
 have Rb:=Blk.new w 99 #[G S 0,H none 0 0];have ag:=z1A v ps _ (hG.below hB) (h.below hB) hl;have HO:Hid (ordF (ps.map Vb)=0→ps.length≤4∧∀q∈ps,insF (Vb q)=0):=fun h0=>by
  have:=((z15 _).1 h0).1;rw[List.length_map]at this;exact⟨this.2,fun q hq=>z1L h0 _ (List.mem_map.2 ⟨q,hq,rfl⟩)⟩
 have HV:Hid (ordF (ps.map Vb)=0→diV (ps.map Vb)=(decN (ps.map Vb):Int)):=fun h0=>if_pos h0
 have hw:=z9M (ps.map Vb) n;have d:Hid _:=hw;clear hw;have aw:decN (ps.map Vb)≤ps.length:=by simpa using z7s (ps.map Vb)
 obtain⟨a,cap,rfl⟩:=h.shape;obtain⟨ao,ap⟩:ps.length≤cap∧cap≤maxLen:=an;generalize dfC (ps.map Vb) n=D at*;generalize dfT (ps.map Vb) n=O at*;generalize ordF (ps.map Vb)=C at*;generalize diV (ps.map Vb)=V at*;generalize decN (ps.map Vb)=M at*;go_enter func50,ntmps50
 go_wp2_with fail
 refine ag.mono ?_;rintro e w1 ⟨rfl,L⟩;replace hB:=hB.trans (L.mono hB.size);replace Rb:=Rb.below L;clear ag L;have T:Below w1.heap.size w1 (w1.alloc (.cells #[G S C,G S V] 42)):=by go_grown
 have Cb:=Blk.new w1 42 #[G S C,G S V];replace hB:=hB.trans (T.mono hB.size);have az:w.heap.size<w1.heap.size:=Rb.lt;replace Rb:=Rb.below T;clear T;by_cases hC:C=0
 ·have hv:=HV.out hC;obtain⟨h4,E⟩:=HO.out hC;have ah:∀p∈ps,insF (Vb p)=0:=E;subst hC;subst hv;clear HV HO;have c1:=Cb.cell 1 _ rfl;have c0:=Cb.cell 0 _ rfl;have ai:=fun w=>z0M n 0 (M:Int) w
  go_wp2_with fail
  clear c0 c1;generalize w1.alloc (.cells #[G S 0,G S M] 42)=X at*;refine(ai X).mono ?_;rintro e w2 ⟨rfl,aa⟩;replace aa:=aa.symm;subst aa;by_cases c:0≤n∧n≤(M:Int)
  ·have W:inW n 0 (M:Int)=true:=by unfold inW;rw[decide_eq_true c.1,decide_eq_true c.2];rfl
   obtain⟨m,rfl⟩:∃m:Nat,n=(m:Int):=⟨n.toNat,by omega⟩
   have hm:m≤ps.length:=by omega
   have E0:Hid (D=0∧O=defL (ps.map Vb) m):=by
    rcases d.out with⟨h0,_⟩|⟨_,h0,_⟩|⟨_,_,h0,h1⟩
    ·exact absurd rfl h0
    ·exact absurd c h0
    ·exact⟨h0,by simpa using h1⟩
   clear d;rw[W];have hT:=h.takeK m hm;have aj:=z9N (H a m cap) (ps.take m) X (hG.below hB) (hT.below hB) (fun p hp=>E p (List.mem_of_mem_take hp)) (by rw[List.length_take];omega) (by have:=z2w InstQ.n ps m;rw[List.length_take];omega);have ax:(0:Int)≤(m:Int):=by omega
   have ay:(m:Int)≤(cap:Int):=by omega
   have aq:m≤cap:=by omega
   have ad:Hid (∀ t∈z4p ((ps.take m).map Vb),t.F=0):=q6p (fun x hx=>by
    obtain⟨p,hp,rfl⟩:=List.mem_map.1 hx;exact E p (List.mem_of_mem_take hp))
   have ab:Hid (onc [] (z4p ((ps.take m).map Vb))=defL (ps.map Vb) m):=show _=_ by unfold defL;rw[List.map_take]
   clear ai E ah hT;have av:w.heap.size<X.heap.size:=Rb.lt
   go_wp2_with fail
   refine aj.mono ?_;rintro e w3 ⟨v3,q3,rfl,e3,l3,o3,ak,z⟩;replace Rb:=Rb.below z;have I:=hB.trans (z.mono hB.size);have F3:∀t∈q3.map Va,t.F=0:=fun t ht=>ad.out t (by rw[←e3];exact ht)
   have ae:txnK.At w3 v3 q3:=Kind.at_of_row o3 (fun q hq=>txnK.rd_below (ak q hq) z);have Z:=z8M v3 q3 w3 ae (q2O o3) l3 (fun p hp=>q6M (t:=Va p) (F3 _ (List.mem_map.2 ⟨p,hp,rfl⟩)));rw[e3,ab.out]at Z;obtain⟨a3,c3,rfl⟩:=z0f o3;clear aj o3 ak ae ad ab z hB
   go_wp2_with fail
   refine Z.mono ?_;rintro e w4 ⟨v4,q4,rfl,e4,l4,o4,al,A⟩;replace Rb:=Rb.below A;have J:=I.trans (A.mono I.size);have F4:∀t∈q4.map Va,t.F=0:=fun t ht=>by
    rw[e4]at ht;rcases z9F _ _ t ht with ht|ht
    ·simp at ht
    ·exact F3 t (by rw[e3,List.map_take];exact ht)
   have af:txnK.At w4 v4 q4:=Kind.at_of_row o4 (fun q hq=>txnK.rd_below (al q hq) A);have U:=z1q v4 q4 w4 af (fun p hp=>by
    have:=(z3R (F4 _ (List.mem_map.2 ⟨p,hp,rfl⟩))).2.2.2.1.1;have h9:1≤p.acts.length:=this;omega) (by have:=q4I F4;omega)
   rw[e4]at U;obtain⟨a4,c4,rfl⟩:=z0f o4;have au:w.heap.size<w4.heap.size:=Rb.lt;clear Z o4 al af A I F3 F4 e3 e4
   go_wp2_with fail
   refine U.mono ?_;rintro e w5 ⟨v5,q5,rfl,e5,o5,n5,g5,N⟩;replace Rb:=Rb.below N;have am:=J.trans (N.mono J.size);obtain⟨a5,c5,rfl⟩:=o5.shape;have E5:Hid (q5.map Va=O):=show _=_ by rw[E0.out.2];exact e5
   have ED:Hid (D=0):=E0.out.1;clear U N J e5 E0;have KF:=z0o am (Nat.le_refl w.heap.size) #[G S 0,H a5 q5.length c5];have O5:Hid _:=o5.out (z0x _ w.heap.size #[G S 0,H a5 q5.length c5]) (fun k hk=>by have:=g5 k hk;simp only[List.mem_singleton];omega);have g6:∀k∈txnK.fp (H a5 q5.length c5) q5,w.heap.size≤k:=fun k hk=>by have:=g5 k hk;omega
   have Rr:=Rb.row #[G S 0,H a5 q5.length c5]
   go_wp2_with (first|(refine z0A (by kernel_rfl) 99 _ _ rfl _ #[G S 0,H a5 q5.length c5] rfl rfl 99 _ Rb q2Q rfl (by simp[Value.oneCell']) ?_))
   obtain⟨y0,y1⟩:=Rr.cel2;refine bodyPost_ret (v:=.agg #[G S 0,H a5 q5.length c5]) (by simp[results,results50,go_sem,y0,y1]) rfl ?_;exact⟨_,q5,by rw[ED.out],E5.out,O5.out,n5,g6,KF⟩
  ·have W:inW n 0 (M:Int)=false:=by
    unfold inW;rw[Bool.and_eq_false_iff,decide_eq_false_iff_not,decide_eq_false_iff_not];omega
   have E0:Hid (D=3∧O=[]):=by
    rcases d.out with⟨h0,_⟩|⟨_,_,h0,h1⟩|⟨_,h0,_⟩
    ·exact absurd rfl h0
    ·exact⟨h0,h1⟩
    ·exact absurd h0 c
   clear d;rw[W];obtain⟨Y,y⟩:=Kind.own_nil (K:=txnK) (X.setRow w.heap.size #[G S 3,H none 0 0]);have KF:=z0o hB (Nat.le_refl w.heap.size) #[G S 3,H none 0 0];have Rr:=Rb.row #[G S 3,H none 0 0]
   go_wp2_with (first|(refine z0A (by kernel_rfl) 99 _ _ rfl _ #[G S 3,H none 0 0] rfl rfl 99 _ Rb q2Q rfl (by simp[Value.oneCell']) ?_))
   obtain⟨y0,y1⟩:=Rr.cel2;refine bodyPost_ret (v:=.agg #[G S 3,H none 0 0]) (by simp[results,results50,go_sem,y0,y1]) rfl ?_;exact⟨_,[],by rw[E0.out.1],by rw[E0.out.2];rfl,Y,by rw[y];simp,by rw[y];simp,KF⟩
 ·have E0:Hid (D=C∧O=[]):=by
   rcases d.out with⟨_,h0,h1⟩|⟨h0,_⟩|⟨h0,_⟩
   ·exact⟨h0,h1⟩
   ·exact absurd h0 hC
   ·exact absurd h0 hC
  clear d HV HO;have ar:(C !=0)=true:=by simpa using hC
  obtain⟨c0,c1⟩:=Cb.cel2;obtain⟨Y,y⟩:=Kind.own_nil (K:=txnK) ((w1.alloc (.cells #[G S C,G S V] 42)).setRow w.heap.size #[G S C,H none 0 0]);have KF:=z0o hB (Nat.le_refl w.heap.size) #[G S C,H none 0 0];have Rr:=Rb.row #[G S C,H none 0 0]
  go_wp2_with (first|(refine z0A (by kernel_rfl) 99 _ _ rfl _ #[G S C,H none 0 0] rfl rfl 99 _ Rb q2Q rfl (by simp[Value.oneCell']) ?_))
  obtain⟨y0,y1⟩:=Rr.cel2;refine bodyPost_ret (v:=.agg #[G S C,H none 0 0]) (by simp[results,results50,go_sem,y0,y1]) rfl ?_;exact⟨_,[],by rw[E0.out.1],by rw[E0.out.2];rfl,Y,by rw[y];simp,by rw[y];simp,KF⟩
theorem q6N{ps:List InstQ}{n:Int}{qs:List TxnQ}(h:qs.map Va=dfT (ps.map Vb) n)(_:ps.length+nmL InstQ.n ps≤1048576):qs.length+nmL TxnQ.n qs≤1048576:=by
 rcases z9M (ps.map Vb) n with⟨_,_,e⟩|⟨_,_,_,e⟩|⟨h0,h1,_,e⟩
 ·rw[e]at h;have:qs=[]:=List.map_eq_nil_iff.1 h;subst this;simp[nmL]
 ·rw[e]at h;have:qs=[]:=List.map_eq_nil_iff.1 h;subst this;simp[nmL]
 ·rw[e]at h;have hF:∀t∈qs.map Va,t.F=0:=fun t ht=>q6q (z1L h0) _ t (by rw[←h];exact ht)
  have h4:=q4I hF;have h16:qs.length≤16:=by
   have e1:qs.length=(qs.map Va).length:=by simp
   rw[e1,h];have:=z7t (z4p ((ps.map Vb).take n.toNat)) [];have h5:=q2P (ds:=(ps.map Vb).take n.toNat) (fun x hx=>z1L h0 x (List.mem_of_mem_take hx));have h6:=((z15 _).1 h0).1.2;rw[List.length_take]at h5;unfold defL;simp only[List.length_nil]at this;omega
  omega
end Go.Proofs.YtjjoahhnkpjolaaGreatDoor

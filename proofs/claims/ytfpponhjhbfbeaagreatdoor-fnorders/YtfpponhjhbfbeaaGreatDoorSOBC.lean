/- Texts joined,with what the laws reach alone. -/
import Derived.Test.YtfpponhjhbfbeaaGreatDoorSOBB
import Derived.ScopeJumps
import Derived.WalkMore
set_option linter.unusedVariables false
set_option linter.unusedSimpArgs false
set_option maxRecDepth 100000
set_option maxHeartbeats 8000000
namespace Go.Proofs.YtfpponhjhbfbeaaGreatDoor
open Go.RowKit Go.BigFrame
section
open Go.Maps
theorem Cts.below{w w':World}{b:Nat}{ns:List Nm}(h:Cts w b ns)(hb:Below w.heap.size w w'):Cts w' b ns:=by
 obtain⟨D,h,hc⟩:=h;have hlt:=h.lt;obtain⟨es,clock,h1,r⟩:=h;exact⟨D,⟨es,clock,(hb.block b hlt).trans h1,r⟩,hc⟩
theorem Cts.drew{w:World}{b:Nat}{ns:List Nm}(h:Cts w b ns):Cts w.drew b ns:=h
theorem z4x{B:Nat}{w w':World}(h:Below B w w'):Below B w w'.drew:=⟨h.os,h.tape,h.output,h.size,h.block⟩
theorem z6G{w:World}{base e size n:Nat}{v:Value}{xs:List Value}(h:w.ownsRow base e size v n xs):w.drew.ownsRow base e size v n xs:=h
theorem z6H{w:World}{b:Nat}{t:TypeId}{cs:Array Value}(h:Blk w b t cs):Blk w.drew b t cs:=h
theorem z77{w w':World}{M e size n:Nat}{v:Value}{xs:List Value}(h:w.ownsRow (M+1) e size v n xs)(ht:w.mapTurned w' M):w'.ownsRow (M+1) e size v n xs:=by
 refine h.kept ht.grown ?_
 cases hv:v.ownBlock with
 |none=>exact Or.inl rfl
 |some k=>
  have:=(h.lt k hv).1;exact Or.inr (fun e=>by simp at e;omega)
theorem z78{w w':World}{b M:Nat}{t:TypeId}{cs:Array Value}(h:Blk w b t cs)(ht:w.mapTurned w' M):Blk w' b t cs:=by
 refine h.grown ht.grown (fun e=>?_);obtain⟨es,clock,es',clock',hb,_⟩:=ht;simp only[Option.some.injEq]at e;subst e;have h2:w.heap[b]?=some (.cells cs t):=h;rw[h2]at hb
 cases hb
theorem z5B{B M:Nat}{w0 w w':World}(h:Below B w0 w)(ht:w.mapTurned w' M)(hM:B≤M):Below B w0 w':=by
 have hg:=ht.grown;obtain⟨es,clock,es',clock',hb,rfl⟩:=ht;have hl:M<w.heap.size:=(Array.getElem?_eq_some_iff.1 hb).1;refine⟨hg.os.trans h.os,hg.tape.trans h.tape,hg.output.trans h.output,Nat.le_trans h.size hg.size,fun k hk=>(hg.block k (by omega) (fun e=>?_)).trans (h.block k hk)⟩;simp only[Option.some.injEq]at e;omega
theorem q0y{w:World}{base base' e size n:Nat}{v:Value}{xs:List Value}(h:w.ownsRow base e size v n xs)(hb:base'≤base):w.ownsRow base' e size v n xs:=by
 refine⟨h.1,?_⟩;rcases h.2 with h2|⟨g,cap,cur,hv,hg,hh,r⟩
 ·exact Or.inl h2
 ·exact Or.inr ⟨g,cap,cur,hv,by omega,hh,r⟩
theorem nmX0(a b c d e f:Int)(w:World):(Instr.index 127 (.agg #[.int .i64 a,.int .i64 b,.int .i64 c,.int .i64 d,.int .i64 e,.int .i64 f]) (.int .i64 0)).run Tryz.prog w=.ok (.agg #[.int .i64 a,.int .i64 b,.int .i64 c]) w:=by kernel_rfl
theorem nmX1(a b c d e f:Int)(w:World):(Instr.index 127 (.agg #[.int .i64 a,.int .i64 b,.int .i64 c,.int .i64 d,.int .i64 e,.int .i64 f]) (.int .i64 1)).run Tryz.prog w=.ok (.agg #[.int .i64 d,.int .i64 e,.int .i64 f]) w:=by kernel_rfl
theorem z33{P:Program}{a:Act}{w:World}{Q:Exit→Act→World→Prop}{c X:Code}(l:Nat)(J:Act→World→Prop)(μ:Act→World→Nat)(hf:findLabel c l=some (Code.skip.seq X))
  (first:(∀a w,J a w→X.wp P (Exit.jump l J Q) a w)→c.wp P (Exit.jump l J Q) a w)
  (pass:∀a w,J a w→X.wp P (Exit.jump l (fun a' w'=>J a' w'∧μ a' w'<μ a w) Q) a w):(Code.scope c).wp P Q a w:=by
 refine wp_scope_jumps l J μ hf (first fun a w h=>?_) (fun a w h=>wp_seq_k fun K hK=>wp_skip (hK _ _ (pass a w h)));refine wp_mono (pass a w h) (fun e a w he=>?_)
 cases e with
 |goto l'=>exact⟨he.1,he.2.1⟩
 |normal=>exact he
 |exit id=>exact he
 |ret=>exact he
 |panic ch=>exact he
 |outgrown=>exact he
theorem z68{P:Program}{a0:Act}{w0:World}{Q:Exit→Act→World→Prop}{r1 r2 rest:Code}{l:Nat}{J:Act→World→Prop}(hrest:∀a w,J a w→rest.wp P Q a w)(h:∀R:Code,(∀a w,J a w→R.wp P Q a w)→(r1.seq (r2.seq R)).wp P Q a0 w0):(r1.seq (r2.seq ((Code.label l).seq rest))).wp P Q a0 w0:=
 h _ (fun a w hJ=>wp_seq_k fun K hK=>wp_label (hK _ _ (hrest a w hJ)))
def OeW(w:World)(ps:List TxnQ)(v v4:Value)(wr:World):Prop:=∃ (k:Nat) (rs qs:List TxnQ),k≤ps.length∧Hid (rs=ps.drop k)∧txnK.At w v rs∧z6a v∧Hid (qs.map TxnQ.e=onc [] ((ps.take k).map TxnQ.e))∧wr.ownsRow (w.heap.size+1) 44 4 v4 qs.length (txnK.row qs)∧Hid (∀q∈qs,q∈ps)∧Cts wr w.heap.size (nms (qs.map TxnQ.e))∧Below w.heap.size w wr
def OeJ(w:World)(ps:List TxnQ)(a':Act)(w':World):Prop:=∃ (v v4 u5 u6 u7 u8 u9 u10 u11 u12 u13 u14 u15 u16 u17 u18 u19 u20 u21 u22 u23 u24 u25 u26 u27 u28 u29 u30 u31 u32 u33 u34 u35 u36 u37 u38 u39 u40 u41 u42 u43 u44 u45 u46 u47 u48 u49 u50 u51 u52 u53 u54 u55 u56 u57 u58:Value),a'={tmps:=#[v,undef,.slice none 0 0,.map (some w.heap.size),v4,u5,u6,u7,u8,u9,u10,u11,u12,u13,u14,u15,u16,u17,u18,u19,u20,u21,u22,u23,u24,u25,u26,u27,u28,u29,u30,u31,u32,u33,u34,u35,u36,u37,u38,u39,u40,u41,u42,u43,u44,u45,u46,u47,u48,u49,u50,u51,u52,u53,u54,u55,u56,u57,u58],defers:=[]}∧OeW w ps v v4 w'
def OeM(a':Act)(_:World):Nat:=match a'.tmps.getD 0 undef with| .slice _ n _=>n|_=>0
theorem z5C(v:Value)(ps:List TxnQ)(w:World)(h:txnK.At w v ps)(hcp:z6a v)(hl:ps.length≤16)(hW:∀p∈ps,1≤p.i∧nmW (nmA (TxnQ.e p))∧nmW (nmB (TxnQ.e p))):
  Calls Tryz.prog 37 #[v] w fun e w'=>∃ (v':Value) (qs:List TxnQ),e=.returned v'∧qs.map TxnQ.e=onc [] (ps.map TxnQ.e)∧qs.length≤16∧w'.ownsRow w.heap.size 44 4 v' qs.length (txnK.row qs)∧(∀q∈qs,txnK.rd w q)∧Below w.heap.size w w':=by
 obtain⟨i0,hif,hz0,hz1,hz2⟩:=info_parts z1q;have hmm:=@run_makeMap Tryz.prog;go_enter Tryz.func37,Tryz.ntmps37
 go_wp2
 refine z33 0 (OeJ w ps) OeM rfl ?_ ?_
 ·intro hrest;obtain⟨a,cap,rfl⟩:=h.shape;have hmade:=Cts.made w;have hbm:Below w.heap.size w (w.alloc (.map #[] 0)):=by go_grown
  have hon:(w.alloc (.map #[] 0)).ownsRow (w.heap.size+1) 44 4 (.slice none 0 0) ([]:List TxnQ).length (txnK.row []):=World.ownsRow_nil _ _ _ _;refine z68 hrest fun R hR=>?_
  go_wp2
  refine hR _ _ ?_;refine⟨_,_,_,_,_,_,_,_,_,_,_,_,_,_,_,_,_,_,_,_,_,_,_,_,_,_,_,_,_,_,_,_,_,_,_,_,_,_,_,_,_,_,_,_,_,_,_,_,_,_,_,_,_,_,_,_,rfl,0,ps,[],Nat.zero_le _,(rfl:_=_),h,hcp,(rfl:_=_),hon,fun q hq=>by simp at hq,hmade,hbm⟩
 ·clear hmm;rintro a' w' ⟨v,v4,u5,u6,u7,u8,u9,u10,u11,u12,u13,u14,u15,u16,u17,u18,u19,u20,u21,u22,u23,u24,u25,u26,u27,u28,u29,u30,u31,u32,u33,u34,u35,u36,u37,u38,u39,u40,u41,u42,u43,u44,u45,u46,u47,u48,u49,u50,u51,u52,u53,u54,u55,u56,u57,u58,rfl,k0,rs,qs0,hk0,HRS,hA,hcp,HE0,hO0,HM0,hC0,hb0⟩;obtain⟨a,cap,rfl⟩:=hA.shape;have HLEN:Hid (rs.length=ps.length-k0):=show _=_ by rw[HRS.out,List.length_drop]
  obtain⟨hcp1,hcp2⟩:rs.length≤cap∧cap≤maxLen:=hcp;obtain⟨sa0,sc0,rfl⟩:=z0l hO0
  go_wp2
  go_loopw[0,4,15] (fun v0 v j wr=>∃ (i:Nat) (qs:List TxnQ),i≤rs.length∧v0=.slice a rs.length cap∧j=.int .i64 i∧Hid (qs.map TxnQ.e=onc [] ((ps.take (k0+i)).map TxnQ.e))∧wr.ownsRow (w.heap.size+1) 44 4 v qs.length (txnK.row qs)∧Hid (∀q∈qs,q∈ps)∧Cts wr w.heap.size (nms (qs.map TxnQ.e))∧Below w.heap.size w wr) (fun _ _ j _=>rs.length-(intOf j).toNat)
  case atStart=>exact⟨0,qs0,Nat.zero_le _,rfl,rfl,HE0,hO0,HM0,hC0,hb0⟩
  case round=>
   clear HE0 hO0 HM0 hC0;obtain⟨i,qs,hi,rfl,rfl,HE,hO,HM,hC,hb⟩:=hrel;obtain⟨sa,sc,rfl⟩:=z0l hO;by_cases hlt:i<rs.length
   ·have hk:k0+i<ps.length:=by have:=HLEN.out;omega
    obtain⟨b,off,rfl,hbs,hc,hrd⟩:=hA.cell (by decide) i hlt;have hpe:rs[i]=ps[k0+i]:=by
     obtain rfl:rs=ps.drop k0:=HRS.out;simp
    rw[hpe]at hc hrd;obtain⟨h1,hwA,hwB⟩:=hW _ (List.getElem_mem hk);have HY:Hid (onc [] ((ps.take (k0+i+1)).map TxnQ.e)=if knw (qs.map TxnQ.e) (TxnQ.e ps[k0+i])then qs.map TxnQ.e else qs.map TxnQ.e++[TxnQ.e ps[k0+i]]):=show _=_ by
     rw[HE.out,List.take_succ_eq_append_getElem hk,List.map_append,z1e];rfl
    have hc':∀j x,(txnK.cells ps[k0+i])[j]?=some x→w.cell? ⟨b,off+i*4+j,none⟩=some x:=hc;have c0:=z04 (hc' 0 (.int .i64 ps[k0+i].i) rfl) hb;have c1:=z04 (hc' 1 (.int .i64 ps[k0+i].s) rfl) hb;have c2:=z04 (hc' 2 (.int .i64 ps[k0+i].q) rfl) hb;have c3:=z04 (hc' 3 ps[k0+i].va rfl) hb;rw[Nat.add_zero]at c0;have hbs':b<wr.heap.size:=Nat.lt_of_lt_of_le hbs hb.size;have hmem:ps[k0+i]∈ps:=List.getElem_mem hk;clear hc hc' hpe;generalize ps[k0+i]=p at*;obtain⟨pi,psn,pq,pva,pacts⟩:=p;have hT:actK.At w pva pacts:=hrd;obtain⟨ba,bk,rfl⟩:=hT.shape;dsimp only at c0 c1 c2 c3 h1;obtain⟨rs2,hrs2⟩:∃rs2,rs2=rs.drop (i+1):=⟨_,rfl⟩
    have hl2:rs2.length=rs.length-(i+1):=by rw[hrs2,List.length_drop]
    obtain⟨ra,rc,hs2,hA2,hcp2'⟩:∃ra rc,(∀u:World,(Instr.slice 27 (.slice (some ⟨b,off,none⟩) rs.length cap) (some (.int .i64 ((i:Int)+1))) none none).run Tryz.prog u=.ok (.slice ra rs2.length rc) u)∧txnK.At w (.slice ra rs2.length rc) rs2∧z6a (.slice ra rs2.length rc):=by
     have hd:=hA.dropS (i+1) (by omega) hcp1 (cap-(i+1));rw[←hrs2]at hd;refine⟨_,_,fun u=>?_,hd,⟨by omega,by omega⟩⟩;rw[run_slice_l u 27 (some ⟨b,off,none⟩) rs.length cap (by kernel_rfl) .i64 ((i:Int)+1) (by omega) (by omega),hl2];rfl
    have HRS2:Hid (rs2=ps.drop (k0+(i+1))):=show _=_ by rw[hrs2,HRS.out,List.drop_drop]
    have HLT2:Hid (rs2.length<rs.length):=show _<_ by omega
    have HJ:Hid (knw (qs.map TxnQ.e) (TxnQ.e (⟨pi,psn,pq,.slice ba pacts.length bk,pacts⟩:TxnQ))=true→qs.map TxnQ.e=onc [] ((ps.take (k0+(i+1))).map TxnQ.e)):=fun hk9=>by
     have h9:=HY.out;rw[hk9]at h9;rw[←Nat.add_assoc,h9];rfl
    clear hrs2 hl2;obtain⟨BX,hBX⟩:∃BX,BX=wr.heap.size:=⟨_,rfl⟩
    have HLQ:Hid ((nms (qs.map TxnQ.e)).length≤32):=show _≤_ by
     rw[z74,HE.out];have:=z4Q ((ps.take (k0+i)).map TxnQ.e) [];simp only[List.length_map,List.length_take,List.length_nil]at this;omega
    have hbY:Below wr.heap.size wr ((wr.alloc (.cells #[.int .i64 pi,.int .i64 psn,.int .i64 pq,.slice ba pacts.length bk] 44)).alloc (.cells #[.int .i64 pi,.int .i64 0,.int .i64 0,.int .i64 0,.int .i64 psn,.int .i64 pq] 127)):=by go_grown
    have X1:Blk ((wr.alloc (.cells #[.int .i64 pi,.int .i64 psn,.int .i64 pq,.slice ba pacts.length bk] 44)).alloc (.cells #[.int .i64 pi,.int .i64 0,.int .i64 0,.int .i64 0,.int .i64 psn,.int .i64 pq] 127)) wr.heap.size 44 #[.int .i64 pi,.int .i64 psn,.int .i64 pq,.slice ba pacts.length bk]:=(Blk.new wr 44 #[.int .i64 pi,.int .i64 psn,.int .i64 pq,.slice ba pacts.length bk]).below (by go_grown);have X2:Blk ((wr.alloc (.cells #[.int .i64 pi,.int .i64 psn,.int .i64 pq,.slice ba pacts.length bk] 44)).alloc (.cells #[.int .i64 pi,.int .i64 0,.int .i64 0,.int .i64 0,.int .i64 psn,.int .i64 pq] 127)) (wr.heap.size+1) 127 #[.int .i64 pi,.int .i64 0,.int .i64 0,.int .i64 0,.int .i64 psn,.int .i64 pq]:=by
     have:=Blk.new (wr.alloc (.cells #[.int .i64 pi,.int .i64 psn,.int .i64 pq,.slice ba pacts.length bk] 44)) 127 #[.int .i64 pi,.int .i64 0,.int .i64 0,.int .i64 0,.int .i64 psn,.int .i64 pq];simpa using this
    have hOY:=z0j hO hbY;have hCY:Cts ((wr.alloc (.cells #[.int .i64 pi,.int .i64 psn,.int .i64 pq,.slice ba pacts.length bk] 44)).alloc (.cells #[.int .i64 pi,.int .i64 0,.int .i64 0,.int .i64 0,.int .i64 psn,.int .i64 pq] 127)) w.heap.size (nms (qs.map TxnQ.e)):=hC.below hbY;have hbW:=hb.trans (hbY.mono hb.size)
    go_wp2
    clear hbY c0 c1 c2 c3 hb hO hC;rw[←hBX]at X1;generalize (wr.alloc (.cells #[.int .i64 pi,.int .i64 psn,.int .i64 pq,.slice ba pacts.length bk] 44)).alloc (.cells #[.int .i64 pi,.int .i64 0,.int .i64 0,.int .i64 0,.int .i64 psn,.int .i64 pq] 127)=Y at*;go_loopw[0,30] (fun v0 j wy=>∃m:Nat,m≤2∧v0=.slice (some ⟨b,off,none⟩) rs.length cap∧j=.int .i64 m∧Hid (1≤m→(nms (qs.map TxnQ.e)).count (pi,0,0)=0)∧Hid (2≤m→(nms (qs.map TxnQ.e)).count (0,psn,pq)=0)∧Below Y.heap.size Y wy) (fun _ j _=>2-(intOf j).toNat)
    case atStart=>exact⟨0,Nat.zero_le _,rfl,rfl,fun h=>by omega,fun h=>by omega,Below.refl _ _⟩
    case round=>
     obtain⟨m,hm,rfl,rfl,HA,HB,hby⟩:=hrel;have hCy:=hCY.below hby;have hlA:=fun o=>(hCy.kept (row:=none) (World.grownBy_alloc wr o none) (by simp)).look hwA
     have hlB:=fun o=>(hCy.kept (row:=none) (World.grownBy_alloc wr o none) (by simp)).look hwB
     simp only[nmV,nmA,nmB,TxnQ.e]at hlA hlB;have hi0:=nmX0 pi 0 0 0 psn pq;have hi1:=nmX1 pi 0 0 0 psn pq;replace X2:=X2.below hby;obtain rfl|rfl|rfl:m=0∨m=1∨m=2:=by omega
     ·by_cases hp:0<(nms (qs.map TxnQ.e)).count (pi,0,0)
      ·have HK9:Hid (knw (qs.map TxnQ.e) (TxnQ.e (⟨pi,psn,pq,.slice ba pacts.length bk,pacts⟩:TxnQ))=true):=(z6e (acc:=qs.map TxnQ.e) (t:=TxnQ.e (⟨pi,psn,pq,.slice ba pacts.length bk,pacts⟩:TxnQ)) (fun x hx=>by obtain⟨q,hq,rfl⟩:=List.mem_map.1 hx;exact(hW q (HM.out q hq)).1) h1).2 (Or.inl hp)
       go_wp2
       refine wp_goto ?_;refine⟨rfl,⟨_,_,_,_,_,_,_,_,_,_,_,_,_,_,_,_,_,_,_,_,_,_,_,_,_,_,_,_,_,_,_,_,_,_,_,_,_,_,_,_,_,_,_,_,_,_,_,_,_,_,_,_,_,_,_,_,rfl,k0+(i+1),rs2,qs,by omega,HRS2,hA2,hcp2',HJ.out HK9.out,z0j (z0j hOY hby) (by go_grown),HM,(hCY.below hby).below (by go_grown),hbW.trans ((hby.alloc hby.size _).mono hbW.size)⟩,?_⟩;exact HLT2.out
      ·have hz:(nms (qs.map TxnQ.e)).count (pi,0,0)=0:=by omega
       rw[hz]at hlA
       go_wp2
       go_roundw
       case rel=>exact⟨1,by omega,rfl,by go_num,fun _=>hz,fun h=>by omega,hby.alloc hby.size _⟩
       case measure=>simp[intOf]
     ·have hA0:=HA.out (by omega);by_cases hp:0<(nms (qs.map TxnQ.e)).count (0,psn,pq)
      ·have HK9:Hid (knw (qs.map TxnQ.e) (TxnQ.e (⟨pi,psn,pq,.slice ba pacts.length bk,pacts⟩:TxnQ))=true):=(z6e (acc:=qs.map TxnQ.e) (t:=TxnQ.e (⟨pi,psn,pq,.slice ba pacts.length bk,pacts⟩:TxnQ)) (fun x hx=>by obtain⟨q,hq,rfl⟩:=List.mem_map.1 hx;exact(hW q (HM.out q hq)).1) h1).2 (Or.inr hp)
       go_wp2
       refine wp_goto ?_;refine⟨rfl,⟨_,_,_,_,_,_,_,_,_,_,_,_,_,_,_,_,_,_,_,_,_,_,_,_,_,_,_,_,_,_,_,_,_,_,_,_,_,_,_,_,_,_,_,_,_,_,_,_,_,_,_,_,_,_,_,_,rfl,k0+(i+1),rs2,qs,by omega,HRS2,hA2,hcp2',HJ.out HK9.out,z0j (z0j hOY hby) (by go_grown),HM,(hCY.below hby).below (by go_grown),hbW.trans ((hby.alloc hby.size _).mono hbW.size)⟩,?_⟩;exact HLT2.out
      ·have hz:(nms (qs.map TxnQ.e)).count (0,psn,pq)=0:=by omega
       rw[hz]at hlB
       go_wp2
       go_roundw
       case rel=>exact⟨2,by omega,rfl,by go_num,fun _=>hA0,fun _=>hz,hby.alloc hby.size _⟩
       case measure=>simp[intOf]
     ·have hA0:=HA.out (by omega);have hB0:=HB.out (by omega);have x0:=X2.cell 0 _ rfl;have x1:=X2.cell 1 _ rfl;have x2:=X2.cell 2 _ rfl;have x3:=X2.cell 3 _ rfl;have x4:=X2.cell 4 _ rfl;have x5:=X2.cell 5 _ rfl;replace X1:=X1.below hby;have hOy:=z0j hOY hby;replace hbW:=hbW.trans (hby.mono hbW.size)
      go_wp2
      clear x0 x1 x2 x3 x4 x5 X2 hlA hlB HA HB hby hCY hOY;have hlq:(nms (qs.map TxnQ.e)).length≤32:=HLQ.out;have hkn:knw (qs.map TxnQ.e) (TxnQ.e (⟨pi,psn,pq,.slice ba pacts.length bk,pacts⟩:TxnQ))=false:=by
       cases hk9:knw (qs.map TxnQ.e) (TxnQ.e (⟨pi,psn,pq,.slice ba pacts.length bk,pacts⟩:TxnQ))with
       |false=>rfl
       |true=>
        have h9:=(z6e (acc:=qs.map TxnQ.e) (t:=TxnQ.e (⟨pi,psn,pq,.slice ba pacts.length bk,pacts⟩:TxnQ)) (fun x hx=>by obtain⟨q,hq,rfl⟩:=List.mem_map.1 hx;exact(hW q (HM.out q hq)).1) h1).1 hk9;have hA9:(nms (qs.map TxnQ.e)).count (nmA (TxnQ.e (⟨pi,psn,pq,.slice ba pacts.length bk,pacts⟩:TxnQ)))=0:=hA0;have hB9:(nms (qs.map TxnQ.e)).count (nmB (TxnQ.e (⟨pi,psn,pq,.slice ba pacts.length bk,pacts⟩:TxnQ)))=0:=hB0;omega
      have HE2:Hid ((qs++[(⟨pi,psn,pq,.slice ba pacts.length bk,pacts⟩:TxnQ)]).map TxnQ.e=onc [] ((ps.take (k0+(i+1))).map TxnQ.e)):=show _=_ by
       have h9:=HY.out;rw[hkn]at h9;rw[←Nat.add_assoc,h9];simp
      have HM2:Hid (∀q∈qs++[(⟨pi,psn,pq,.slice ba pacts.length bk,pacts⟩:TxnQ)],q∈ps):=fun q hq=>by
       rcases List.mem_append.1 hq with hq|hq
       ·exact HM.out q hq
       ·rw[List.mem_singleton.1 hq];exact hmem
      have HL16:Hid (qs.length≤16):=show _≤_ by
       have h9:=hlq;rw[z74]at h9;simp at h9;omega
      have HNS:Hid (nms ((qs++[(⟨pi,psn,pq,.slice ba pacts.length bk,pacts⟩:TxnQ)]).map TxnQ.e)=nms (qs.map TxnQ.e)++[(pi,0,0),(0,psn,pq)]):=show _=_ by
       rw[List.map_append];exact(z8R _ _).trans (by simp[nmA,nmB,TxnQ.e])
      clear hkn HY;generalize hns:nms (qs.map TxnQ.e)=ns at*;go_loopw[43] (fun j wz=>∃m:Nat,m≤2∧j=.int .i64 m∧Cts wz w.heap.size (ns++[(pi,0,0),(0,psn,pq)].take m)∧wz.ownsRow (w.heap.size+1) 44 4 (.slice sa qs.length sc) qs.length (txnK.row qs)∧Blk wz BX 44 #[.int .i64 pi,.int .i64 psn,.int .i64 pq,.slice ba pacts.length bk]∧Below w.heap.size w wz) (fun j _=>2-(intOf j).toNat)
      case atStart=>exact⟨0,Nat.zero_le _,rfl,by simpa using hCy,hOy,X1,hbW⟩
      case round=>
       clear hCy hOy X1 hbW;obtain⟨m,hm,rfl,hCz,hOz,X1,hbW⟩:=hrel;obtain rfl|rfl|rfl:m=0∨m=1∨m=2:=by omega
       ·simp only[List.take_zero,List.append_nil]at hCz;have hCU:Cts (wr.alloc (.cells #[.int .i64 pi,.int .i64 0,.int .i64 0] 126)).drew w.heap.size ns:=(hCz.kept (row:=none) (World.grownBy_alloc wr (.cells #[.int .i64 pi,.int .i64 0,.int .i64 0] 126) none) (by simp)).drew;have e0:=hCU.look hwA;obtain⟨v0,st,w1,w3,e1,e2,e3,t1,t3,hC4⟩:=hCU.inc hwA (by omega);have z1:((0:Nat):Int)+1=1:=rfl;simp only[nmV,nmA,TxnQ.e,hA0,z1]at e0 e1 e2 e3;have HO3:Hid (w3.ownsRow (w.heap.size+1) 44 4 (.slice sa qs.length sc) qs.length (txnK.row qs)):=z77 (z6G (z0j hOz (by go_grown))) t3;have HX3:Hid (Blk w3 BX 44 #[.int .i64 pi,.int .i64 psn,.int .i64 pq,.slice ba pacts.length bk]):=z78 (z6H (X1.below (by go_grown))) t3;have HB3:Hid (Below w.heap.size w w3):=z5B (z4x (hbW.alloc hbW.size _)) t3 (Nat.le_refl _);clear t1 t3
        go_wp2
        go_region
        go_wp2
        go_roundw
        case rel=>exact⟨1,by omega,by go_num,hC4,HO3.out,HX3.out,HB3.out⟩
        case measure=>simp[intOf]
       ·have hne:(ns++[(pi,0,0)]).count (0,psn,pq)=0:=by
         rw[List.count_append,hB0];have:[(pi,(0:Int),(0:Int))].count (0,psn,pq)=0:=List.count_eq_zero.2 (by simp;omega);omega
        have hCz':Cts wr w.heap.size (ns++[(pi,0,0)]):=hCz;have hCU:Cts (wr.alloc (.cells #[.int .i64 0,.int .i64 psn,.int .i64 pq] 126)).drew w.heap.size (ns++[(pi,0,0)]):=(hCz'.kept (row:=none) (World.grownBy_alloc wr (.cells #[.int .i64 0,.int .i64 psn,.int .i64 pq] 126) none) (by simp)).drew;have e0:=hCU.look hwB;obtain⟨v0,st,w1,w3,e1,e2,e3,t1,t3,hC4⟩:=hCU.inc hwB (by simp;omega);have z1:((0:Nat):Int)+1=1:=rfl;have hC5:Cts w3 w.heap.size (ns++[(pi,0,0),(0,psn,pq)]):=by
         have e9:ns++[(pi,0,0)]++[(0,psn,pq)]=ns++[(pi,0,0),(0,psn,pq)]:=by simp
         rw[←e9];exact hC4
        simp only[nmV,nmB,TxnQ.e,hne,z1]at e0 e1 e2 e3;have HO3:Hid (w3.ownsRow (w.heap.size+1) 44 4 (.slice sa qs.length sc) qs.length (txnK.row qs)):=z77 (z6G (z0j hOz (by go_grown))) t3;have HX3:Hid (Blk w3 BX 44 #[.int .i64 pi,.int .i64 psn,.int .i64 pq,.slice ba pacts.length bk]):=z78 (z6H (X1.below (by go_grown))) t3;have HB3:Hid (Below w.heap.size w w3):=z5B (z4x (hbW.alloc hbW.size _)) t3 (Nat.le_refl _);clear t1 t3
        go_wp2
        go_region
        go_wp2
        go_roundw
        case rel=>exact⟨2,by omega,by go_num,hC5,HO3.out,HX3.out,HB3.out⟩
        case measure=>simp[intOf]
       ·rw[hBX]at X1;have y0:=X1.cell 0 _ rfl;have y1:=X1.cell 1 _ rfl;have y2:=X1.cell 2 _ rfl;have y3:=X1.cell 3 _ rfl;have hbA3:Below wr.heap.size wr (wr.alloc (.cells #[.int .i64 pi,.int .i64 psn,.int .i64 pq,.slice ba pacts.length bk] 44)):=by go_grown
        have hOA:=z0j hOz hbA3;have hCA:Cts (wr.alloc (.cells #[.int .i64 pi,.int .i64 psn,.int .i64 pq,.slice ba pacts.length bk] 44)) w.heap.size (ns++[(pi,0,0),(0,psn,pq)]):=Cts.below (w:=wr) hCz hbA3;have hbB:=hbW.trans (hbA3.mono hbW.size);have HQL:Hid (qs.length≤16):=HL16;clear hOz hCz hbW X1 hbA3
        go_wp2_with (at_builtin;refine wpList_append_own_at _ rfl _ _ 27 rfl (w.heap.size+1) 44 i0 (.agg #[.int .i64 0,.int .i64 0,.int .i64 0,.slice none 0 0]) 4 48 Tryz.underlying27 hif hz0 hz1 hz2 rfl (by decide) _ qs.length (txnK.row qs) rfl hOA ⟨wr.heap.size,0,none⟩ 1 1 [.int .i64 pi,.int .i64 psn,.int .i64 pq,.slice ba pacts.length bk] rfl rfl ?c1 ?c2 ?c3 ?c4 ?c5 ?_)
        all_goals try(case c1=>intro j u hj;match j,hj with|0,hj=>simp at hj;subst hj;simp[Addr.add]|1,hj=>simp at hj;subst hj;simp[Addr.add]|2,hj=>simp at hj;subst hj;simp[Addr.add]|3,hj=>simp at hj;subst hj;simp[Addr.add])
        all_goals try(case c2=>intro u hu;simp at hu;rcases hu with rfl|rfl|rfl|rfl<;>rfl)
        all_goals try(case c3=>have:=HQL.out;unfold maxLen;omega)
        all_goals try(case c4=>have:=HQL.out;omega)
        all_goals try(case c5=>have:=hCA.lt;omega)
        intro v' w5 hown hgrow hnil hat;have hrow:txnK.row (qs++[(⟨pi,psn,pq,.slice ba pacts.length bk,pacts⟩:TxnQ)])=txnK.row qs++[.int .i64 pi,.int .i64 psn,.int .i64 pq,.slice ba pacts.length bk]:=by simp[Kind.row];rfl
        have hown5:w5.ownsRow (w.heap.size+1) 44 4 v' (qs++[(⟨pi,psn,pq,.slice ba pacts.length bk,pacts⟩:TxnQ)]).length (txnK.row (qs++[(⟨pi,psn,pq,.slice ba pacts.length bk,pacts⟩:TxnQ)])):=by rw[hrow,List.length_append];exact hown
        have hb5:Below w.heap.size w w5:=hbB.grown hgrow hbB.size (fun j hj=>by have:=(hOA.lt j hj).1;omega);have hC5:Cts w5 w.heap.size (nms ((qs++[(⟨pi,psn,pq,.slice ba pacts.length bk,pacts⟩:TxnQ)]).map TxnQ.e)):=by
         rw[HNS.out];exact hCA.kept hgrow (fun e=>by have:=(hOA.lt _ e.symm).1;omega)
        clear hown hgrow hnil hat hrow hOA hCA hbB
        go_wp2
        go_roundw
        case rel=>exact⟨i+1,qs++[(⟨pi,psn,pq,.slice ba pacts.length bk,pacts⟩:TxnQ)],by omega,rfl,by go_num,HE2,hown5,HM2,hC5,hb5⟩
        case measure=>simp[intOf];omega
   ·have hil:i=rs.length:=by omega
    subst hil;have hE:=HE.out;rw[List.take_of_length_le (by have:=HLEN.out;omega)]at hE;have hL:qs.length≤16:=by
     have e9:qs.length=(qs.map TxnQ.e).length:=by simp
     have:=z4Q (ps.map TxnQ.e) [];rw[e9,hE];simp only[List.length_map,List.length_nil]at this;omega
    have hR:∀q∈qs,txnK.rd w q:=fun q hq=>by
     obtain⟨a9,c9,e9,hL9,hr9⟩:=h;exact hr9 q (HM.out q hq)
    have hO9:=q0y hO (Nat.le_succ w.heap.size)
    go_wp2
    first|go_ret|(simp only[Exit.jump];go_ret)
    first|exact⟨_,qs,rfl,hE,hL,hO9,hR,hb⟩|exact⟨_,rfl,qs,hE,hL,hO9,hR,hb⟩
end
theorem z9Q{w:World}{base e size n:Nat}{v:Value}{xs:List Value}(h:w.ownsRow base e size v n xs):z6a v:=by
 rcases h.2 with⟨rfl,_⟩|⟨g,c,cur,rfl,_,_,h1,h2,_⟩
 ·exact⟨Nat.le_refl _,by decide⟩
 ·exact⟨h1,h2⟩
theorem q0V{bs:List TxnD}(h:batF bs=0):∀t∈bs,t.F=0:=by
 unfold batF at h;split at h
 ·exact absurd h (by decide)
 ·split at h
  ·rename_i h1 h2
   exact z6y h2
  ·rename_i h1 h2
   exact absurd h h2
theorem q0W{x:InstE}(h:insF x=0):∀t∈x.batch,t.F=0:=by
 obtain⟨h0,_⟩:=z1d h;obtain⟨_,_,_,hb0,hb1⟩:=z0V h0
 cases hh:x.has with
 |false=>
  rw[hb0 hh];intro t ht;simp at ht
 |true=>exact q0V (hb1 hh)
theorem q0z{ds:List InstE}(h:∀x∈ds,insF x=0):∀t∈z2D ds,t.F=0:=by
 intro t ht;unfold z2D at ht;obtain⟨x,hx,ht⟩:=List.mem_flatMap.1 ht;split at ht
 ·exact q0W (h x hx) t ht
 ·simp at ht
theorem z16(n:Int)(h1:-1000≤n)(h2:n≤1000):(Lit.int .i64 n).wf=true:=by
 have e1:IntKind.i64.min=-9223372036854775808:=by decide
 have e2:IntKind.i64.max=9223372036854775807:=by decide
 show(decide (IntKind.i64.min≤n) && decide (n≤IntKind.i64.max))=true;rw[e1,e2,Bool.and_eq_true,decide_eq_true_eq,decide_eq_true_eq];omega
theorem q0X{t:TxnD}(h:t.F=0):1≤t.id∧nmW (nmA t)∧nmW (nmB t):=by
 obtain⟨⟨h1,h2⟩,⟨h3,h4⟩,⟨h5,h6⟩,_⟩:=z3G h;exact⟨h1,⟨z16 t.id (by omega) (by omega),z16 0 (by decide) (by decide),z16 0 (by decide) (by decide)⟩,⟨z16 0 (by decide) (by decide),z16 t.session (by omega) (by omega),z16 t.seq (by omega) (by omega)⟩⟩
theorem q0A{qs:List TxnQ}(h:∀t∈qs.map TxnQ.e,t.F=0):nmL TxnQ.n qs≤4*qs.length:=by
 induction qs with
 |nil=>simp[nmL]
 |cons q r ih=>
  have h1:(TxnQ.e q).F=0:=h _ (by simp);have h2:=(z3G h1).2.2.2.1.2;have h3:q.acts.length≤4:=h2;have:=ih (fun t ht=>h t (by simp only[List.map_cons,List.mem_cons];exact Or.inr ht));simp only[nmL,List.map_cons,List.sum_cons,List.length_cons,TxnQ.n]at this⊢;omega
theorem z79{ds:List InstE}(h:∀x∈ds,insF x=0):(z2D ds).length≤4*ds.length:=by
 unfold z2D;induction ds with
 |nil=>simp
 |cons x r ih=>
  have h1:=h x (by simp);have:=ih (fun y hy=>h y (List.mem_cons_of_mem _ hy));simp only[List.flatMap_cons,List.length_append,List.length_cons];have h2:x.batch.length≤4:=by
   obtain⟨h0,_⟩:=z1d h1;obtain⟨_,_,_,hb0,hb1⟩:=z0V h0
   cases hh:x.has with
   |false=>rw[hb0 hh];simp
   |true=>
    have h3:=hb1 hh;unfold batF at h3;split at h3
    ·exact absurd h3 (by decide)
    ·omega
  split
  ·omega
  ·simp only[List.length_nil];omega
theorem z8a:(Tryz.prog.info? 29).map (·.size)=some 2:=by kernel_rfl
theorem q0B{ds:List InstE}(h:∀x∈ds,insF x=0)(m:Nat):∀t∈defL ds m,t.F=0:=by
 intro t ht;rcases z56 _ _ t ht with ht|ht
 ·simp at ht
 ·exact q0z (fun x hx=>h x (List.mem_of_mem_take hx)) t ht
theorem z1n(v:Value)(ps:List InstQ)(n:Int)(w:World)(hG:Rul w)(h:instK.At w v ps)(hcp:z6a v)(hl:(ps.length+nmL InstQ.n ps)≤1048576):
  Calls Tryz.prog 7 #[v,.int .i64 n] w fun e w'=>∃ (v':Value) (qs:List TxnQ),e=.returned (.agg #[.int .i64 (dfC (ps.map InstQ.e) n),v'])∧qs.map TxnQ.e=dfT (ps.map InstQ.e) n∧txnK.Own w' v' qs∧(txnK.fp v' qs).Nodup∧(∀k∈txnK.fp v' qs,w.heap.size≤k)∧Below w.heap.size w w':=by
 have hB:Below w.heap.size w (w.alloc (.cells #[.int .i64 0,.slice none 0 0] 29)):=by go_grown
 have Rb:=Blk.new w 29 #[.int .i64 0,.slice none 0 0];have hdi:=z0S v ps _ (hG.below hB) (h.below hB) hl;have HO:Hid (ordF (ps.map InstQ.e)=0→ps.length≤4∧∀q∈ps,insF (InstQ.e q)=0):=fun h0=>by
  have:=((z06 _).1 h0).1;rw[List.length_map]at this;exact⟨this.2,fun q hq=>z1L h0 _ (List.mem_map.2 ⟨q,hq,rfl⟩)⟩
 have HV:Hid (ordF (ps.map InstQ.e)=0→diV (ps.map InstQ.e)=(decN (ps.map InstQ.e):Int)):=fun h0=>if_pos h0
 have hw:=z4V (ps.map InstQ.e) n;have HWW:Hid _:=hw;clear hw;have hdl:decN (ps.map InstQ.e)≤ps.length:=by simpa using z3X (ps.map InstQ.e)
 obtain⟨a,cap,rfl⟩:=h.shape;obtain⟨hcp1,hcp2⟩:ps.length≤cap∧cap≤maxLen:=hcp;generalize dfC (ps.map InstQ.e) n=D at*;generalize dfT (ps.map InstQ.e) n=O at*;generalize ordF (ps.map InstQ.e)=C at*;generalize diV (ps.map InstQ.e)=V at*;generalize decN (ps.map InstQ.e)=M at*;go_enter Tryz.func7,Tryz.ntmps7
 go_wp2_with fail
 refine hdi.mono ?_;rintro e w1 ⟨rfl,hb1⟩;replace hB:=hB.trans (hb1.mono hB.size);replace Rb:=Rb.below hb1;clear hdi hb1;have hbA:Below w1.heap.size w1 (w1.alloc (.cells #[.int .i64 C,.int .i64 V] 38)):=by go_grown
 have Cb:=Blk.new w1 38 #[.int .i64 C,.int .i64 V];replace hB:=hB.trans (hbA.mono hB.size);have hr1:w.heap.size<w1.heap.size:=Rb.lt;replace Rb:=Rb.below hbA;clear hbA;by_cases hC:C=0
 ·have hv:=HV.out hC;obtain⟨h4,hin⟩:=HO.out hC;have hin':∀p∈ps,insF (InstQ.e p)=0:=hin;subst hC;subst hv;clear HV HO;have c1:=Cb.cell 1 _ rfl;have c0:=Cb.cell 0 _ rfl;have hiw:=fun w=>z1k n 0 (M:Int) w
  go_wp2_with fail
  clear c0 c1;generalize w1.alloc (.cells #[.int .i64 0,.int .i64 M] 38)=X at*;refine(hiw X).mono ?_;rintro e w2 ⟨rfl,hw2⟩;replace hw2:=hw2.symm;subst hw2;by_cases hin0:0≤n∧n≤(M:Int)
  ·have hiW:inW n 0 (M:Int)=true:=by unfold inW;rw[decide_eq_true hin0.1,decide_eq_true hin0.2];rfl
   obtain⟨m,rfl⟩:∃m:Nat,n=(m:Int):=⟨n.toNat,by omega⟩
   have hm:m≤ps.length:=by omega
   have E0:Hid (D=0∧O=defL (ps.map InstQ.e) m):=by
    rcases HWW.out with⟨h0,_⟩|⟨_,h0,_⟩|⟨_,_,h0,h1⟩
    ·exact absurd rfl h0
    ·exact absurd hin0 h0
    ·exact⟨h0,by simpa using h1⟩
   clear HWW;rw[hiW];have hT:=h.takeK m hm;have htk:=z6d (.slice a m cap) (ps.take m) X (hG.below hB) (hT.below hB) (fun p hp=>hin p (List.mem_of_mem_take hp)) (by rw[List.length_take];omega) (by have:=z6i InstQ.n ps m;rw[List.length_take];omega);have hm0:(0:Int)≤(m:Int):=by omega
   have hmc:(m:Int)≤(cap:Int):=by omega
   have hmc':m≤cap:=by omega
   have HTF:Hid (∀ t∈z2D ((ps.take m).map InstQ.e),t.F=0):=q0z (fun x hx=>by
    obtain⟨p,hp,rfl⟩:=List.mem_map.1 hx;exact hin p (List.mem_of_mem_take hp))
   have HDL:Hid (onc [] (z2D ((ps.take m).map InstQ.e))=defL (ps.map InstQ.e) m):=show _=_ by unfold defL;rw[List.map_take]
   clear hiw hin hin' hT;have hXr:w.heap.size<X.heap.size:=Rb.lt
   go_wp2_with fail
   refine htk.mono ?_;rintro e w3 ⟨v3,q3,rfl,e3,l3,o3,rd3,hb3⟩;replace Rb:=Rb.below hb3;have hB3:=hB.trans (hb3.mono hB.size);have F3:∀t∈q3.map TxnQ.e,t.F=0:=fun t ht=>HTF.out t (by rw[←e3];exact ht)
   have at3:txnK.At w3 v3 q3:=Kind.at_of_row o3 (fun q hq=>txnK.rd_below (rd3 q hq) hb3);have hoe:=z5C v3 q3 w3 at3 (z9Q o3) l3 (fun p hp=>q0X (t:=TxnQ.e p) (F3 _ (List.mem_map.2 ⟨p,hp,rfl⟩)));rw[e3,HDL.out]at hoe;obtain⟨a3,c3,rfl⟩:=z0l o3;clear htk o3 rd3 at3 HTF HDL hb3 hB
   go_wp2_with fail
   refine hoe.mono ?_;rintro e w4 ⟨v4,q4,rfl,e4,l4,o4,rd4,hb4⟩;replace Rb:=Rb.below hb4;have hB4:=hB3.trans (hb4.mono hB3.size);have F4:∀t∈q4.map TxnQ.e,t.F=0:=fun t ht=>by
    rw[e4]at ht;rcases z56 _ _ t ht with ht|ht
    ·simp at ht
    ·exact F3 t (by rw[e3,List.map_take];exact ht)
   have at4:txnK.At w4 v4 q4:=Kind.at_of_row o4 (fun q hq=>txnK.rd_below (rd4 q hq) hb4);have hcl:=z1H v4 q4 w4 at4 (fun p hp=>by
    have:=(z3G (F4 _ (List.mem_map.2 ⟨p,hp,rfl⟩))).2.2.2.1.1;have h9:1≤p.acts.length:=this;omega) (by have:=q0A F4;omega)
   rw[e4]at hcl;obtain⟨a4,c4,rfl⟩:=z0l o4;have hX4:w.heap.size<w4.heap.size:=Rb.lt;clear hoe o4 rd4 at4 hb4 hB3 F3 F4 e3 e4
   go_wp2_with fail
   refine hcl.mono ?_;rintro e w5 ⟨v5,q5,rfl,e5,o5,n5,g5,hb5⟩;replace Rb:=Rb.below hb5;have hB5:=hB4.trans (hb5.mono hB4.size);obtain⟨a5,c5,rfl⟩:=o5.shape;have E5:Hid (q5.map TxnQ.e=O):=show _=_ by rw[E0.out.2];exact e5
   have ED:Hid (D=0):=E0.out.1;clear hcl hb5 hB4 e5 E0;have KF:=z0a hB5 (Nat.le_refl w.heap.size) #[.int .i64 0,.slice a5 q5.length c5];have O5:Hid _:=o5.out (z0d _ w.heap.size #[.int .i64 0,.slice a5 q5.length c5]) (fun k hk=>by have:=g5 k hk;simp only[List.mem_singleton];omega);have g6:∀k∈txnK.fp (.slice a5 q5.length c5) q5,w.heap.size≤k:=fun k hk=>by have:=g5 k hk;omega
   have Rr:=Rb.row #[.int .i64 0,.slice a5 q5.length c5]
   go_wp2_with (first|(refine z0b (by kernel_rfl) 29 _ _ rfl _ #[.int .i64 0,.slice a5 q5.length c5] rfl rfl 29 _ Rb z8a rfl (by simp[Value.oneCell']) ?_))
   have y0:=Rr.cell 0 _ rfl;have y1:=Rr.cell 1 _ rfl;refine bodyPost_ret (v:=.agg #[.int .i64 0,.slice a5 q5.length c5]) (by simp[results,Tryz.results7,go_sem,y0,y1]) rfl ?_;exact⟨_,q5,by rw[ED.out],E5.out,O5.out,n5,g6,KF⟩
  ·have hiW:inW n 0 (M:Int)=false:=by
    unfold inW;rw[Bool.and_eq_false_iff,decide_eq_false_iff_not,decide_eq_false_iff_not];omega
   have E0:Hid (D=3∧O=[]):=by
    rcases HWW.out with⟨h0,_⟩|⟨_,_,h0,h1⟩|⟨_,h0,_⟩
    ·exact absurd rfl h0
    ·exact⟨h0,h1⟩
    ·exact absurd h0 hin0
   clear HWW;rw[hiW];obtain⟨hn1,hn2⟩:=Kind.own_nil (K:=txnK) (X.setRow w.heap.size #[.int .i64 3,.slice none 0 0]);have KF:=z0a hB (Nat.le_refl w.heap.size) #[.int .i64 3,.slice none 0 0];have Rr:=Rb.row #[.int .i64 3,.slice none 0 0]
   go_wp2_with (first|(refine z0b (by kernel_rfl) 29 _ _ rfl _ #[.int .i64 3,.slice none 0 0] rfl rfl 29 _ Rb z8a rfl (by simp[Value.oneCell']) ?_))
   have y0:=Rr.cell 0 _ rfl;have y1:=Rr.cell 1 _ rfl;refine bodyPost_ret (v:=.agg #[.int .i64 3,.slice none 0 0]) (by simp[results,Tryz.results7,go_sem,y0,y1]) rfl ?_;exact⟨_,[],by rw[E0.out.1],by rw[E0.out.2];rfl,hn1,by rw[hn2];simp,by rw[hn2];simp,KF⟩
 ·have E0:Hid (D=C∧O=[]):=by
   rcases HWW.out with⟨_,h0,h1⟩|⟨h0,_⟩|⟨h0,_⟩
   ·exact⟨h0,h1⟩
   ·exact absurd h0 hC
   ·exact absurd h0 hC
  clear HWW HV HO;have hC':(C !=0)=true:=by simpa using hC
  have c0:=Cb.cell 0 _ rfl;have c1:=Cb.cell 1 _ rfl;obtain⟨hn1,hn2⟩:=Kind.own_nil (K:=txnK) ((w1.alloc (.cells #[.int .i64 C,.int .i64 V] 38)).setRow w.heap.size #[.int .i64 C,.slice none 0 0]);have KF:=z0a hB (Nat.le_refl w.heap.size) #[.int .i64 C,.slice none 0 0];have Rr:=Rb.row #[.int .i64 C,.slice none 0 0]
  go_wp2_with (first|(refine z0b (by kernel_rfl) 29 _ _ rfl _ #[.int .i64 C,.slice none 0 0] rfl rfl 29 _ Rb z8a rfl (by simp[Value.oneCell']) ?_))
  have y0:=Rr.cell 0 _ rfl;have y1:=Rr.cell 1 _ rfl;refine bodyPost_ret (v:=.agg #[.int .i64 C,.slice none 0 0]) (by simp[results,Tryz.results7,go_sem,y0,y1]) rfl ?_;exact⟨_,[],by rw[E0.out.1],by rw[E0.out.2];rfl,hn1,by rw[hn2];simp,by rw[hn2];simp,KF⟩
theorem z9R{ps:List InstQ}{n:Int}{qs:List TxnQ}(h:qs.map TxnQ.e=dfT (ps.map InstQ.e) n)(_:ps.length+nmL InstQ.n ps≤1048576):qs.length+nmL TxnQ.n qs≤1048576:=by
 rcases z4V (ps.map InstQ.e) n with⟨_,_,e⟩|⟨_,_,_,e⟩|⟨h0,h1,_,e⟩
 ·rw[e]at h;have:qs=[]:=List.map_eq_nil_iff.1 h;subst this;simp[nmL]
 ·rw[e]at h;have:qs=[]:=List.map_eq_nil_iff.1 h;subst this;simp[nmL]
 ·rw[e]at h;have hF:∀t∈qs.map TxnQ.e,t.F=0:=fun t ht=>q0B (z1L h0) _ t (by rw[←h];exact ht)
  have h4:=q0A hF;have h16:qs.length≤16:=by
   have e1:qs.length=(qs.map TxnQ.e).length:=by simp
   rw[e1,h];have:=z4Q (z2D ((ps.map InstQ.e).take n.toNat)) [];have h5:=z79 (ds:=(ps.map InstQ.e).take n.toNat) (fun x hx=>z1L h0 x (List.mem_of_mem_take hx));have h6:=((z06 _).1 h0).1.2;rw[List.length_take]at h5;unfold defL;simp only[List.length_nil]at this;omega
  omega
def Dif(xs:List TxnD):Prop:=xs.Pairwise (fun a b=>stF a b=false)
theorem z8S{acc:List TxnD}{t:TxnD}(h:Dif acc)(hk:knw acc t=false):Dif (acc++[t]):=by
 unfold Dif;rw[List.pairwise_append];refine⟨h,List.pairwise_singleton _ _,fun a ha b hb=>?_⟩;simp only[List.mem_singleton]at hb;subst hb;unfold knw at hk;rw[List.any_eq_false]at hk;simpa using hk a ha
theorem z8b:∀ (xs acc:List TxnD),Dif acc→Dif (onc acc xs)
 |[],acc,h=>h
 |t::r,acc,h=>by
  simp only[onc];refine z8b r _ ?_;split
  ·exact h
  ·rename_i hk
   exact z8S h (by simpa using hk)
theorem z83:∀ (r acc:List TxnD),(∀t∈r,t.F=0)→Dif (acc++r)→z3n acc r=0
 |[],acc,_,_=>rfl
 |t::r,acc,hF,hD=>by
  have hk:knw acc t=false:=by
   unfold knw;rw[List.any_eq_false];intro a ha;unfold Dif at hD;rw[List.pairwise_append]at hD;have:=hD.2.2 a ha t (by simp);simpa using this
  have h0:stpF acc t=0:=by
   unfold stpF;rw[if_pos (hF t (by simp)),hk];rfl
  rw[z3n,if_pos h0];exact z83 r _ (fun t' h'=>hF t' (List.mem_cons_of_mem _ h')) (by simpa using hD)
theorem z9S{xs:List TxnD}(h:Dif xs)(k i:Nat)(hk:k<i)(hi:i<xs.length):stF (xs.getD k z2d) (xs.getD i z2d)=false:=by
 have:=List.pairwise_iff_getElem.1 h k i (by omega) hi hk;simpa[List.getD,hi,show k<xs.length by omega]using this
theorem q0C{ds:List InstE}{n:Int}(h:dfC ds n=0):ordF ds=0∧dfC ds (diV ds)=0∧preT (dfT ds n) (dfT ds (diV ds))=true∧lstF (dfT ds n)=0∧Dif (dfT ds n):=by
 rcases z4V ds n with⟨h0,e,_⟩|⟨_,_,e,_⟩|⟨h0,hn,_,e⟩
 ·exact absurd (e.symm.trans h) h0
 ·rw[e]at h;exact absurd h (by decide)
 ·have d0:diV ds=(decN ds:Int):=by unfold diV;rw[if_pos h0]
  have c0:dfC ds (decN ds:Int)=0:=by unfold dfC;rw[if_pos h0,if_pos (by omega)]
  have t0:dfT ds (decN ds:Int)=defL ds (decN ds):=by unfold dfT;rw[if_pos c0];simp
  have hm:=z1L h0;have hlen:(defL ds n.toNat).length≤40:=by
   have a1:=z4Q (z2D (ds.take n.toNat)) [];have a2:=z79 (ds:=ds.take n.toNat) (fun x hx=>hm x (List.mem_of_mem_take hx));have a3:=((z06 ds).1 h0).1.2;have a4:(ds.take n.toNat).length≤ds.length:=List.length_take_le' _ _;unfold defL;simp only[List.length_nil]at a1;omega
  have hD:Dif (defL ds n.toNat):=z8b _ _ List.Pairwise.nil;rw[d0,t0,e];refine⟨h0,c0,?_,?_,hD⟩
  ·obtain⟨zs,e2⟩:=z9H ds n.toNat (decN ds) (by omega);rw[e2];exact z9M _ _
  ·unfold lstF;rw[if_neg (by omega)];exact z83 _ [] (q0B hm _) (by simpa using hD)
theorem q0D{ds:List InstE}(h:niC ds=0):ordF (niO ds)=0∧(niO ds).length=ds.length+1:=by
 rcases z30 ds with⟨h0,e,_⟩|⟨_,_,e,_⟩|⟨_,_,_,e,_⟩|⟨h0,hd,h4,_,e⟩
 ·exact absurd (e.symm.trans h) h0
 ·rw[e]at h;exact absurd h (by decide)
 ·rw[e]at h;exact absurd h (by decide)
 ·rw[e];obtain⟨hl,ha⟩:=(z06 ds).1 h0;have hln:(ds++[z5E]).length=ds.length+1:=by simp
  refine⟨?_,hln⟩;rw[z06,hln];refine⟨by omega,fun k hk=>?_⟩;by_cases hk1:k<ds.length
  ·have e2:(ds++[z5E]).getD k z0F=ds.getD k z0F:=by
    simp only[List.getD];rw[List.getElem?_append_left hk1]
   rw[e2];refine⟨(ha k hk1).1,fun _=>z9G h0 k (by have:=z3X ds;omega)⟩
  ·have hk2:k=ds.length:=by omega
   have e2:(ds++[z5E]).getD k z0F=z5E:=by
    subst hk2;simp[List.getD]
   rw[e2];exact⟨z51,fun hk3=>by omega⟩
theorem z5D(a:Option Addr)(n cap:Nat)(w:World)(hm:n≤9223372036854775807):
  Calls Tryz.prog 5 #[.slice a n cap] w fun e w'=>e=.returned (.bool (decide (1048576<(n:Int))))∧w'=w:=by
 go_enter Tryz.func5,Tryz.ntmps5
 go_wp2
 go_ret;exact⟨rfl,rfl⟩
end Go.Proofs.YtfpponhjhbfbeaaGreatDoor

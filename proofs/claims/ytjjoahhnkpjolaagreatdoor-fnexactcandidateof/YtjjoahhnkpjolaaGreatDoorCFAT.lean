/- Texts joined, with what the laws reach alone. -/
import Derived.Test.YtjjoahhnkpjolaaGreatDoorCFAS
import Derived.ScopeJumps
import Derived.WalkMore
set_option linter.unusedVariables false
set_option linter.unusedSimpArgs false
namespace Go.Proofs.YtjjoahhnkpjolaaGreatDoor
open Go.RowKit Go.Maps
open Go.BigFrame
set_option maxRecDepth 100000
theorem Cts.below {w w' : World} {b:Nat} {ns:List Nm} (h:Cts w b ns) (hb:Below w.heap.size w w'):Cts w' b ns:=by
 obtain ⟨D,h,hc⟩:=h
 have hlt:=h.lt
 obtain ⟨es,clock,h1,r⟩:=h
 exact ⟨D,⟨es,clock,(hb.block b hlt).trans h1,r⟩,hc⟩

theorem Cts.drew {w:World} {b:Nat} {ns:List Nm} (h:Cts w b ns):Cts w.drew b ns:=h

theorem below_drew {B:Nat} {w w' : World} (h:Below B w w'):Below B w w'.drew:=⟨h.os,h.tape,h.output,h.size,h.block⟩

theorem own_drew {w:World} {base e size n:Nat} {v:Value} {xs:List Value} (h:w.ownsRow base e size v n xs):w.drew.ownsRow base e size v n xs:=h

theorem blk_drew {w:World} {b:Nat} {t:TypeId} {cs:Array Value} (h:Blk w b t cs):Blk w.drew b t cs:=h

theorem own_map {w w' : World} {M e size n:Nat} {v:Value} {xs:List Value} (h:w.ownsRow (M + 1) e size v n xs) (ht:w.mapTurned w' M):w'.ownsRow (M + 1) e size v n xs:=by
 refine h.kept ht.grown ?_
 cases hv:v.ownBlock with
 | none=>exact Or.inl rfl
 | some k=>
  have:=(h.lt k hv).1
  exact Or.inr (fun e=>by simp at e;omega)

theorem blk_map {w w' : World} {b M:Nat} {t:TypeId} {cs:Array Value} (h:Blk w b t cs) (ht:w.mapTurned w' M):Blk w' b t cs:=by
 refine h.grown ht.grown (fun e=>?_)
 obtain ⟨es,clock,es',clock',hb,_⟩:=ht
 simp only [Option.some.injEq] at e
 subst e
 have h2:w.heap[b]? = some (.cells cs t):=h
 rw [h2] at hb
 cases hb

theorem below_map {B M:Nat} {w0 w w' : World} (h:Below B w0 w) (ht:w.mapTurned w' M) (hM:B≤M):Below B w0 w' := by
 have hg:=ht.grown
 obtain ⟨es,clock,es',clock',hb,rfl⟩:=ht
 have hl:M < w.heap.size:=(Array.getElem?_eq_some_iff.1 hb).1
 refine ⟨hg.os.trans h.os,hg.tape.trans h.tape,hg.output.trans h.output,Nat.le_trans h.size hg.size,fun k hk=>(hg.block k (by omega) (fun e=>?_)).trans (h.block k hk)⟩
 simp only [Option.some.injEq] at e
 omega

theorem own_lo {w:World} {base base' e size n:Nat} {v:Value} {xs:List Value} (h:w.ownsRow base e size v n xs) (hb:base' ≤ base):w.ownsRow base' e size v n xs:=by
 refine ⟨h.1,?_⟩
 rcases h.2 with h2 | ⟨g,cap,cur,hv,hg,hh,r⟩
 ·exact Or.inl h2
 ·exact Or.inr ⟨g,cap,cur,hv,by omega,hh,r⟩

theorem nmX0 (a b c d e f:Int) (w:World):(Instr.index 214 (.agg #[.int .i64 a,.int .i64 b,.int .i64 c,.int .i64 d,.int .i64 e,.int .i64 f]) (.int .i64 0)).run Tryz.prog w=.ok (.agg #[.int .i64 a,.int .i64 b,.int .i64 c]) w:=by kernel_rfl

theorem nmX1 (a b c d e f:Int) (w:World):(Instr.index 214 (.agg #[.int .i64 a,.int .i64 b,.int .i64 c,.int .i64 d,.int .i64 e,.int .i64 f]) (.int .i64 1)).run Tryz.prog w=.ok (.agg #[.int .i64 d,.int .i64 e,.int .i64 f]) w:=by kernel_rfl

theorem wp_scope_jumps2 {P:Program} {a:Act} {w:World} {Q:Exit→Act→World→Prop} {c X:Code} (l:Nat) (J:Act→World→Prop) (μ:Act→World→Nat) (hf:findLabel c l=some (Code.skip.seq X))
  (first:(∀ a w,J a w→X.wp P (Exit.jump l J Q) a w)→c.wp P (Exit.jump l J Q) a w)
  (pass:∀ a w,J a w→X.wp P (Exit.jump l (fun a' w' => J a' w' ∧ μ a' w' < μ a w) Q) a w):(Code.scope c).wp P Q a w:=by
 refine wp_scope_jumps l J μ hf (first fun a w h=>?_) (fun a w h=>wp_seq_k fun K hK=>wp_skip (hK _ _ (pass a w h)))
 refine wp_mono (pass a w h) (fun e a w he=>?_)
 cases e with
 | goto l' => exact ⟨he.1,he.2.1⟩
 | normal=>exact he
 | exit id=>exact he
 | ret=>exact he
 | panic ch=>exact he
 | outgrown=>exact he

theorem first_part {P:Program} {a0:Act} {w0:World} {Q:Exit→Act→World→Prop} {r1 r2 rest:Code} {l:Nat} {J:Act→World→Prop} (hrest:∀ a w,J a w→rest.wp P Q a w) (h:∀ R:Code,(∀ a w,J a w→R.wp P Q a w)→(r1.seq (r2.seq R)).wp P Q a0 w0):(r1.seq (r2.seq ((Code.label l).seq rest))).wp P Q a0 w0:=
 h _ (fun a w hJ=>wp_seq_k fun K hK=>wp_label (hK _ _ (hrest a w hJ)))

/-- What holds at every jump. -/
def OeW (w:World) (ps:List TxnQ) (v v4:Value) (wr:World):Prop:=∃ (k:Nat) (rs qs:List TxnQ),k≤ps.length∧Hid (rs=ps.drop k)∧txnK.At w v rs∧CapOk v∧Hid (qs.map TxnQ.e=onc [] ((ps.take k).map TxnQ.e))∧wr.ownsRow (w.heap.size + 1) 158 4 v4 qs.length (txnK.row qs)∧Hid (∀ q∈qs,q∈ps)∧Cts wr w.heap.size (nms (qs.map TxnQ.e))∧Below w.heap.size w wr

def OeJ (w:World) (ps:List TxnQ) (a' : Act) (w' : World):Prop:=∃ (v v4 u5 u6 u7 u8 u9 u10 u11 u12 u13 u14 u15 u16 u17 u18 u19 u20 u21 u22 u23 u24 u25 u26 u27 u28 u29 u30 u31 u32 u33 u34 u35 u36 u37 u38 u39 u40 u41 u42 u43 u44 u45 u46 u47 u48 u49 u50 u51 u52 u53 u54 u55 u56 u57 u58:Value),a' = { tmps:=#[v,undef,.slice none 0 0,.map (some w.heap.size),v4,u5,u6,u7,u8,u9,u10,u11,u12,u13,u14,u15,u16,u17,u18,u19,u20,u21,u22,u23,u24,u25,u26,u27,u28,u29,u30,u31,u32,u33,u34,u35,u36,u37,u38,u39,u40,u41,u42,u43,u44,u45,u46,u47,u48,u49,u50,u51,u52,u53,u54,u55,u56,u57,u58],defers:=[] }∧OeW w ps v v4 w'

def OeM (a' : Act) (_:World):Nat:=match a'.tmps.getD 0 undef with | .slice _ n _=>n | _=>0

set_option maxHeartbeats 8000000 in
set_option maxRecDepth 1000000 in
theorem onceEach_any (v:Value) (ps:List TxnQ) (w:World) (h:txnK.At w v ps) (hcp:CapOk v) (hl:ps.length≤16) (hW:∀ p∈ps,1≤p.i∧nmW (nmA (TxnQ.e p))∧nmW (nmB (TxnQ.e p))) :
  Calls Tryz.prog 87 #[v] w fun e w' => ∃ (v' : Value) (qs:List TxnQ),e=.returned v' ∧ qs.map TxnQ.e=onc [] (ps.map TxnQ.e)∧qs.length≤16∧w'.ownsRow w.heap.size 158 4 v' qs.length (txnK.row qs)∧(∀ q∈qs,txnK.rd w q)∧Below w.heap.size w w' := by
 obtain ⟨i0,hif,hz0,hz1,hz2⟩:=info_parts infoTxn
 have hmm:=@run_makeMap Tryz.prog
 go_enter Tryz.func87,Tryz.ntmps87
 go_wp2
 refine wp_scope_jumps2 0 (OeJ w ps) OeM rfl ?_ ?_
 ·intro hrest
  obtain ⟨a,cap,rfl⟩:=h.shape
  have hmade:=Cts.made w
  have hbm:Below w.heap.size w (w.alloc (.map #[] 0)):=by go_grown
  have hon:(w.alloc (.map #[] 0)).ownsRow (w.heap.size + 1) 158 4 (.slice none 0 0) ([]:List TxnQ).length (txnK.row []):=World.ownsRow_nil _ _ _ _
  refine first_part hrest fun R hR=>?_
  go_wp2
  refine hR _ _ ?_
  refine ⟨_,_,_,_,_,_,_,_,_,_,_,_,_,_,_,_,_,_,_,_,_,_,_,_,_,_,_,_,_,_,_,_,_,_,_,_,_,_,_,_,_,_,_,_,_,_,_,_,_,_,_,_,_,_,_,_,rfl,0,ps,[],Nat.zero_le _,(rfl:_=_),h,hcp,(rfl:_=_),hon,fun q hq=>by simp at hq,hmade,hbm⟩
 ·clear hmm
  rintro a' w' ⟨v,v4,u5,u6,u7,u8,u9,u10,u11,u12,u13,u14,u15,u16,u17,u18,u19,u20,u21,u22,u23,u24,u25,u26,u27,u28,u29,u30,u31,u32,u33,u34,u35,u36,u37,u38,u39,u40,u41,u42,u43,u44,u45,u46,u47,u48,u49,u50,u51,u52,u53,u54,u55,u56,u57,u58,rfl,k0,rs,qs0,hk0,HRS,hA,hcp,HE0,hO0,HM0,hC0,hb0⟩
  obtain ⟨a,cap,rfl⟩:=hA.shape
  have HLEN:Hid (rs.length=ps.length - k0):=show _=_ by rw [HRS.out,List.length_drop]
  obtain ⟨hcp1,hcp2⟩:rs.length≤cap∧cap≤maxLen:=hcp
  obtain ⟨sa0,sc0,rfl⟩:=own_shape hO0
  go_wp2
  go_loopw [0,4,15] (fun v0 v j wr=>∃ (i:Nat) (qs:List TxnQ),i≤rs.length∧v0=.slice a rs.length cap∧j=.int .i64 i∧Hid (qs.map TxnQ.e=onc [] ((ps.take (k0 + i)).map TxnQ.e))∧wr.ownsRow (w.heap.size + 1) 158 4 v qs.length (txnK.row qs)∧Hid (∀ q∈qs,q∈ps)∧Cts wr w.heap.size (nms (qs.map TxnQ.e))∧Below w.heap.size w wr) (fun _ _ j _=>rs.length - (intOf j).toNat)
  case atStart=>exact ⟨0,qs0,Nat.zero_le _,rfl,rfl,HE0,hO0,HM0,hC0,hb0⟩
  case round=>
   clear HE0 hO0 HM0 hC0
   obtain ⟨i,qs,hi,rfl,rfl,HE,hO,HM,hC,hb⟩:=hrel
   obtain ⟨sa,sc,rfl⟩:=own_shape hO
   by_cases hlt:i < rs.length
   ·have hk:k0 + i < ps.length:=by have:=HLEN.out;omega
    obtain ⟨b,off,rfl,hbs,hc,hrd⟩:=hA.cell (by decide) i hlt
    have hpe:rs[i]=ps[k0 + i]:=by
     obtain rfl:rs=ps.drop k0:=HRS.out
     simp
    rw [hpe] at hc hrd
    obtain ⟨h1,hwA,hwB⟩:=hW _ (List.getElem_mem hk)
    have HY:Hid (onc [] ((ps.take (k0 + i + 1)).map TxnQ.e)=if knw (qs.map TxnQ.e) (TxnQ.e ps[k0 + i]) then qs.map TxnQ.e else qs.map TxnQ.e ++ [TxnQ.e ps[k0 + i]]):=show _=_ by
     rw [HE.out,List.take_succ_eq_append_getElem hk,List.map_append,onc_append]
     rfl
    have hc' : ∀ j x,(txnK.cells ps[k0 + i])[j]? = some x→w.cell? ⟨b,off + i * 4 + j,none⟩=some x:=hc
    have c0:=cellB (hc' 0 (.int .i64 ps[k0 + i].i) rfl) hb
    have c1:=cellB (hc' 1 (.int .i64 ps[k0 + i].s) rfl) hb
    have c2:=cellB (hc' 2 (.int .i64 ps[k0 + i].q) rfl) hb
    have c3:=cellB (hc' 3 ps[k0 + i].va rfl) hb
    rw [Nat.add_zero] at c0
    have hbs' : b < wr.heap.size:=Nat.lt_of_lt_of_le hbs hb.size
    have hmem:ps[k0 + i]∈ps:=List.getElem_mem hk
    clear hc hc' hpe
    generalize ps[k0 + i]=p at *
    obtain ⟨pi,psn,pq,pva,pacts⟩:=p
    have hT:actK.At w pva pacts:=hrd
    obtain ⟨ba,bk,rfl⟩:=hT.shape
    dsimp only at c0 c1 c2 c3 h1
    obtain ⟨rs2,hrs2⟩:∃ rs2,rs2=rs.drop (i + 1):=⟨_,rfl⟩
    have hl2:rs2.length=rs.length - (i + 1):=by rw [hrs2,List.length_drop]
    obtain ⟨ra,rc,hs2,hA2,hcp2'⟩:∃ ra rc,(∀ u:World,(Instr.slice 52 (.slice (some ⟨b,off,none⟩) rs.length cap) (some (.int .i64 ((i:Int) + 1))) none none).run Tryz.prog u=.ok (.slice ra rs2.length rc) u)∧txnK.At w (.slice ra rs2.length rc) rs2∧CapOk (.slice ra rs2.length rc):=by
     have hd:=hA.dropS (i + 1) (by omega) hcp1 (cap - (i + 1))
     rw [← hrs2] at hd
     refine ⟨_,_,fun u=>?_,hd,⟨by omega,by omega⟩⟩
     rw [run_slice_l u 52 (some ⟨b,off,none⟩) rs.length cap (by kernel_rfl) .i64 ((i:Int) + 1) (by omega) (by omega),hl2]
     rfl
    have HRS2:Hid (rs2=ps.drop (k0 + (i + 1))):=show _=_ by rw [hrs2,HRS.out,List.drop_drop]
    have HLT2:Hid (rs2.length < rs.length):=show _ < _ by omega
    have HJ:Hid (knw (qs.map TxnQ.e) (TxnQ.e (⟨pi,psn,pq,.slice ba pacts.length bk,pacts⟩:TxnQ))=true→qs.map TxnQ.e=onc [] ((ps.take (k0 + (i + 1))).map TxnQ.e)):=fun hk9=>by
     have h9:=HY.out
     rw [hk9] at h9
     rw [← Nat.add_assoc,h9]
     rfl
    clear hrs2 hl2
    obtain ⟨BX,hBX⟩:∃ BX,BX=wr.heap.size:=⟨_,rfl⟩
    have HLQ:Hid ((nms (qs.map TxnQ.e)).length≤32):=show _≤_ by
     rw [nms_len,HE.out]
     have:=onc_len ((ps.take (k0 + i)).map TxnQ.e) []
     simp only [List.length_map,List.length_take,List.length_nil] at this
     omega
    have hbY:Below wr.heap.size wr ((wr.alloc (.cells #[.int .i64 pi,.int .i64 psn,.int .i64 pq,.slice ba pacts.length bk] 158)).alloc (.cells #[.int .i64 pi,.int .i64 0,.int .i64 0,.int .i64 0,.int .i64 psn,.int .i64 pq] 214)):=by go_grown
    have X1:Blk ((wr.alloc (.cells #[.int .i64 pi,.int .i64 psn,.int .i64 pq,.slice ba pacts.length bk] 158)).alloc (.cells #[.int .i64 pi,.int .i64 0,.int .i64 0,.int .i64 0,.int .i64 psn,.int .i64 pq] 214)) wr.heap.size 158 #[.int .i64 pi,.int .i64 psn,.int .i64 pq,.slice ba pacts.length bk]:=(Blk.new wr 158 #[.int .i64 pi,.int .i64 psn,.int .i64 pq,.slice ba pacts.length bk]).below (by go_grown)
    have X2:Blk ((wr.alloc (.cells #[.int .i64 pi,.int .i64 psn,.int .i64 pq,.slice ba pacts.length bk] 158)).alloc (.cells #[.int .i64 pi,.int .i64 0,.int .i64 0,.int .i64 0,.int .i64 psn,.int .i64 pq] 214)) (wr.heap.size + 1) 214 #[.int .i64 pi,.int .i64 0,.int .i64 0,.int .i64 0,.int .i64 psn,.int .i64 pq]:=by
     have:=Blk.new (wr.alloc (.cells #[.int .i64 pi,.int .i64 psn,.int .i64 pq,.slice ba pacts.length bk] 158)) 214 #[.int .i64 pi,.int .i64 0,.int .i64 0,.int .i64 0,.int .i64 psn,.int .i64 pq]
     simpa using this
    have hOY:=own_below hO hbY
    have hCY:Cts ((wr.alloc (.cells #[.int .i64 pi,.int .i64 psn,.int .i64 pq,.slice ba pacts.length bk] 158)).alloc (.cells #[.int .i64 pi,.int .i64 0,.int .i64 0,.int .i64 0,.int .i64 psn,.int .i64 pq] 214)) w.heap.size (nms (qs.map TxnQ.e)):=hC.below hbY
    have hbW:=hb.trans (hbY.mono hb.size)
    go_wp2
    clear hbY c0 c1 c2 c3 hb hO hC
    rw [← hBX] at X1
    generalize (wr.alloc (.cells #[.int .i64 pi,.int .i64 psn,.int .i64 pq,.slice ba pacts.length bk] 158)).alloc (.cells #[.int .i64 pi,.int .i64 0,.int .i64 0,.int .i64 0,.int .i64 psn,.int .i64 pq] 214)=Y at *
    go_loopw [0,30] (fun v0 j wy=>∃ m:Nat,m≤2∧v0=.slice (some ⟨b,off,none⟩) rs.length cap∧j=.int .i64 m∧Hid (1≤m→(nms (qs.map TxnQ.e)).count (pi,0,0)=0)∧Hid (2≤m→(nms (qs.map TxnQ.e)).count (0,psn,pq)=0)∧Below Y.heap.size Y wy) (fun _ j _=>2 - (intOf j).toNat)
    case atStart=>exact ⟨0,Nat.zero_le _,rfl,rfl,fun h=>by omega,fun h=>by omega,Below.refl _ _⟩
    case round=>
     obtain ⟨m,hm,rfl,rfl,HA,HB,hby⟩:=hrel
     have hCy:=hCY.below hby
     have hlA:=fun o=>(hCy.kept (row:=none) (World.grownBy_alloc wr o none) (by simp)).look hwA
     have hlB:=fun o=>(hCy.kept (row:=none) (World.grownBy_alloc wr o none) (by simp)).look hwB
     simp only [nmV,nmA,nmB,TxnQ.e] at hlA hlB
     have hi0:=nmX0 pi 0 0 0 psn pq
     have hi1:=nmX1 pi 0 0 0 psn pq
     replace X2:=X2.below hby
     obtain rfl | rfl | rfl:m=0∨m=1∨m=2:=by omega
     ·by_cases hp:0 < (nms (qs.map TxnQ.e)).count (pi,0,0)
      ·have HK9:Hid (knw (qs.map TxnQ.e) (TxnQ.e (⟨pi,psn,pq,.slice ba pacts.length bk,pacts⟩:TxnQ))=true):=(knw_nms (acc:=qs.map TxnQ.e) (t:=TxnQ.e (⟨pi,psn,pq,.slice ba pacts.length bk,pacts⟩:TxnQ)) (fun x hx=>by obtain ⟨q,hq,rfl⟩:=List.mem_map.1 hx;exact (hW q (HM.out q hq)).1) h1).2 (Or.inl hp)
       go_wp2
       refine wp_goto ?_
       refine ⟨rfl,⟨_,_,_,_,_,_,_,_,_,_,_,_,_,_,_,_,_,_,_,_,_,_,_,_,_,_,_,_,_,_,_,_,_,_,_,_,_,_,_,_,_,_,_,_,_,_,_,_,_,_,_,_,_,_,_,_,rfl,k0 + (i + 1),rs2,qs,by omega,HRS2,hA2,hcp2',HJ.out HK9.out,own_below (own_below hOY hby) (by go_grown),HM,(hCY.below hby).below (by go_grown),hbW.trans ((hby.alloc hby.size _).mono hbW.size)⟩,?_⟩
       exact HLT2.out
      ·have hz:(nms (qs.map TxnQ.e)).count (pi,0,0)=0:=by omega
       rw [hz] at hlA
       go_wp2
       go_roundw
       case rel=>exact ⟨1,by omega,rfl,by go_num,fun _=>hz,fun h=>by omega,hby.alloc hby.size _⟩
       case measure=>simp [intOf]
     ·have hA0:=HA.out (by omega)
      by_cases hp:0 < (nms (qs.map TxnQ.e)).count (0,psn,pq)
      ·have HK9:Hid (knw (qs.map TxnQ.e) (TxnQ.e (⟨pi,psn,pq,.slice ba pacts.length bk,pacts⟩:TxnQ))=true):=(knw_nms (acc:=qs.map TxnQ.e) (t:=TxnQ.e (⟨pi,psn,pq,.slice ba pacts.length bk,pacts⟩:TxnQ)) (fun x hx=>by obtain ⟨q,hq,rfl⟩:=List.mem_map.1 hx;exact (hW q (HM.out q hq)).1) h1).2 (Or.inr hp)
       go_wp2
       refine wp_goto ?_
       refine ⟨rfl,⟨_,_,_,_,_,_,_,_,_,_,_,_,_,_,_,_,_,_,_,_,_,_,_,_,_,_,_,_,_,_,_,_,_,_,_,_,_,_,_,_,_,_,_,_,_,_,_,_,_,_,_,_,_,_,_,_,rfl,k0 + (i + 1),rs2,qs,by omega,HRS2,hA2,hcp2',HJ.out HK9.out,own_below (own_below hOY hby) (by go_grown),HM,(hCY.below hby).below (by go_grown),hbW.trans ((hby.alloc hby.size _).mono hbW.size)⟩,?_⟩
       exact HLT2.out
      ·have hz:(nms (qs.map TxnQ.e)).count (0,psn,pq)=0:=by omega
       rw [hz] at hlB
       go_wp2
       go_roundw
       case rel=>exact ⟨2,by omega,rfl,by go_num,fun _=>hA0,fun _=>hz,hby.alloc hby.size _⟩
       case measure=>simp [intOf]
     ·have hA0:=HA.out (by omega)
      have hB0:=HB.out (by omega)
      obtain ⟨x0,x1,x2,x3,x4,x5⟩:=X2.cel6
      replace X1:=X1.below hby
      have hOy:=own_below hOY hby
      replace hbW:=hbW.trans (hby.mono hbW.size)
      go_wp2
      clear x0 x1 x2 x3 x4 x5 X2 hlA hlB HA HB hby hCY hOY
      have hlq:(nms (qs.map TxnQ.e)).length≤32:=HLQ.out
      have hkn:knw (qs.map TxnQ.e) (TxnQ.e (⟨pi,psn,pq,.slice ba pacts.length bk,pacts⟩:TxnQ))=false:=by
       cases hk9:knw (qs.map TxnQ.e) (TxnQ.e (⟨pi,psn,pq,.slice ba pacts.length bk,pacts⟩:TxnQ)) with
       | false=>rfl
       | true=>
        have h9:=(knw_nms (acc:=qs.map TxnQ.e) (t:=TxnQ.e (⟨pi,psn,pq,.slice ba pacts.length bk,pacts⟩:TxnQ)) (fun x hx=>by obtain ⟨q,hq,rfl⟩:=List.mem_map.1 hx;exact (hW q (HM.out q hq)).1) h1).1 hk9
        have hA9:(nms (qs.map TxnQ.e)).count (nmA (TxnQ.e (⟨pi,psn,pq,.slice ba pacts.length bk,pacts⟩:TxnQ)))=0:=hA0
        have hB9:(nms (qs.map TxnQ.e)).count (nmB (TxnQ.e (⟨pi,psn,pq,.slice ba pacts.length bk,pacts⟩:TxnQ)))=0:=hB0
        omega
      have HE2:Hid ((qs ++ [(⟨pi,psn,pq,.slice ba pacts.length bk,pacts⟩:TxnQ)]).map TxnQ.e=onc [] ((ps.take (k0 + (i + 1))).map TxnQ.e)):=show _=_ by
       have h9:=HY.out
       rw [hkn] at h9
       rw [← Nat.add_assoc,h9]
       simp
      have HM2:Hid (∀ q∈qs ++ [(⟨pi,psn,pq,.slice ba pacts.length bk,pacts⟩:TxnQ)],q∈ps):=fun q hq=>by
       rcases List.mem_append.1 hq with hq | hq
       ·exact HM.out q hq
       ·rw [List.mem_singleton.1 hq];exact hmem
      have HL16:Hid (qs.length≤16):=show _≤_ by
       have h9:=hlq
       rw [nms_len] at h9
       simp at h9
       omega
      have HNS:Hid (nms ((qs ++ [(⟨pi,psn,pq,.slice ba pacts.length bk,pacts⟩:TxnQ)]).map TxnQ.e)=nms (qs.map TxnQ.e) ++ [(pi,0,0),(0,psn,pq)]):=show _=_ by
       rw [List.map_append]
       exact (nms_snoc _ _).trans (by simp [nmA,nmB,TxnQ.e])
      clear hkn HY
      generalize hns:nms (qs.map TxnQ.e)=ns at *
      go_loopw [43] (fun j wz=>∃ m:Nat,m≤2∧j=.int .i64 m∧Cts wz w.heap.size (ns ++ [(pi,0,0),(0,psn,pq)].take m)∧wz.ownsRow (w.heap.size + 1) 158 4 (.slice sa qs.length sc) qs.length (txnK.row qs)∧Blk wz BX 158 #[.int .i64 pi,.int .i64 psn,.int .i64 pq,.slice ba pacts.length bk]∧Below w.heap.size w wz) (fun j _=>2 - (intOf j).toNat)
      case atStart=>exact ⟨0,Nat.zero_le _,rfl,by simpa using hCy,hOy,X1,hbW⟩
      case round=>
       clear hCy hOy X1 hbW
       obtain ⟨m,hm,rfl,hCz,hOz,X1,hbW⟩:=hrel
       obtain rfl | rfl | rfl:m=0∨m=1∨m=2:=by omega
       ·simp only [List.take_zero,List.append_nil] at hCz
        have hCU:Cts (wr.alloc (.cells #[.int .i64 pi,.int .i64 0,.int .i64 0] 213)).drew w.heap.size ns:=(hCz.kept (row:=none) (World.grownBy_alloc wr (.cells #[.int .i64 pi,.int .i64 0,.int .i64 0] 213) none) (by simp)).drew
        have e0:=hCU.look hwA
        obtain ⟨v0,st,w1,w3,e1,e2,e3,t1,t3,hC4⟩:=hCU.inc hwA (by omega)
        have z1:((0:Nat):Int) + 1=1:=rfl
        simp only [nmV,nmA,TxnQ.e,hA0,z1] at e0 e1 e2 e3
        have HO3:Hid (w3.ownsRow (w.heap.size + 1) 158 4 (.slice sa qs.length sc) qs.length (txnK.row qs)):=own_map (own_drew (own_below hOz (by go_grown))) t3
        have HX3:Hid (Blk w3 BX 158 #[.int .i64 pi,.int .i64 psn,.int .i64 pq,.slice ba pacts.length bk]):=blk_map (blk_drew (X1.below (by go_grown))) t3
        have HB3:Hid (Below w.heap.size w w3):=below_map (below_drew (hbW.alloc hbW.size _)) t3 (Nat.le_refl _)
        clear t1 t3
        go_wp2
        go_region
        go_wp2
        go_roundw
        case rel=>exact ⟨1,by omega,by go_num,hC4,HO3.out,HX3.out,HB3.out⟩
        case measure=>simp [intOf]
       ·have hne:(ns ++ [(pi,0,0)]).count (0,psn,pq)=0:=by
         rw [List.count_append,hB0]
         have:[(pi,(0:Int),(0:Int))].count (0,psn,pq)=0:=List.count_eq_zero.2 (by simp;omega)
         omega
        have hCz' : Cts wr w.heap.size (ns ++ [(pi,0,0)]):=hCz
        have hCU:Cts (wr.alloc (.cells #[.int .i64 0,.int .i64 psn,.int .i64 pq] 213)).drew w.heap.size (ns ++ [(pi,0,0)]):=(hCz'.kept (row:=none) (World.grownBy_alloc wr (.cells #[.int .i64 0,.int .i64 psn,.int .i64 pq] 213) none) (by simp)).drew
        have e0:=hCU.look hwB
        obtain ⟨v0,st,w1,w3,e1,e2,e3,t1,t3,hC4⟩:=hCU.inc hwB (by simp;omega)
        have z1:((0:Nat):Int) + 1=1:=rfl
        have hC5:Cts w3 w.heap.size (ns ++ [(pi,0,0),(0,psn,pq)]):=by
         have e9:ns ++ [(pi,0,0)] ++ [(0,psn,pq)]=ns ++ [(pi,0,0),(0,psn,pq)]:=by simp
         rw [← e9]
         exact hC4
        simp only [nmV,nmB,TxnQ.e,hne,z1] at e0 e1 e2 e3
        have HO3:Hid (w3.ownsRow (w.heap.size + 1) 158 4 (.slice sa qs.length sc) qs.length (txnK.row qs)):=own_map (own_drew (own_below hOz (by go_grown))) t3
        have HX3:Hid (Blk w3 BX 158 #[.int .i64 pi,.int .i64 psn,.int .i64 pq,.slice ba pacts.length bk]):=blk_map (blk_drew (X1.below (by go_grown))) t3
        have HB3:Hid (Below w.heap.size w w3):=below_map (below_drew (hbW.alloc hbW.size _)) t3 (Nat.le_refl _)
        clear t1 t3
        go_wp2
        go_region
        go_wp2
        go_roundw
        case rel=>exact ⟨2,by omega,by go_num,hC5,HO3.out,HX3.out,HB3.out⟩
        case measure=>simp [intOf]
       ·rw [hBX] at X1
        obtain ⟨y0,y1,y2,y3⟩:=X1.cel4
        have hbA3:Below wr.heap.size wr (wr.alloc (.cells #[.int .i64 pi,.int .i64 psn,.int .i64 pq,.slice ba pacts.length bk] 158)):=by go_grown
        have hOA:=own_below hOz hbA3
        have hCA:Cts (wr.alloc (.cells #[.int .i64 pi,.int .i64 psn,.int .i64 pq,.slice ba pacts.length bk] 158)) w.heap.size (ns ++ [(pi,0,0),(0,psn,pq)]):=Cts.below (w:=wr) hCz hbA3
        have hbB:=hbW.trans (hbA3.mono hbW.size)
        have HQL:Hid (qs.length≤16):=HL16
        clear hOz hCz hbW X1 hbA3
        go_wp2_with (at_builtin;refine wpList_append_own_at _ rfl _ _ 52 rfl (w.heap.size + 1) 158 i0 (.agg #[.int .i64 0,.int .i64 0,.int .i64 0,.slice none 0 0]) 4 48 Tryz.underlying52 hif hz0 hz1 hz2 rfl (by decide) _ qs.length (txnK.row qs) rfl hOA ⟨wr.heap.size,0,none⟩ 1 1 [.int .i64 pi,.int .i64 psn,.int .i64 pq,.slice ba pacts.length bk] rfl rfl ?c1 ?c2 ?c3 ?c4 ?c5 ?_)
        all_goals try (case c1=>intro j u hj;match j,hj with | 0,hj=>simp at hj;subst hj;simp [Addr.add] | 1,hj=>simp at hj;subst hj;simp [Addr.add] | 2,hj=>simp at hj;subst hj;simp [Addr.add] | 3,hj=>simp at hj;subst hj;simp [Addr.add])
        all_goals try (case c2=>intro u hu;simp at hu;rcases hu with rfl | rfl | rfl | rfl <;> rfl)
        all_goals try (case c3=>have:=HQL.out;unfold maxLen;omega)
        all_goals try (case c4=>have:=HQL.out;omega)
        all_goals try (case c5=>have:=hCA.lt;omega)
        intro v' w5 hown hgrow hnil hat
        have hrow:txnK.row (qs ++ [(⟨pi,psn,pq,.slice ba pacts.length bk,pacts⟩:TxnQ)])=txnK.row qs ++ [.int .i64 pi,.int .i64 psn,.int .i64 pq,.slice ba pacts.length bk]:=by simp [Kind.row];rfl
        have hown5:w5.ownsRow (w.heap.size + 1) 158 4 v' (qs ++ [(⟨pi,psn,pq,.slice ba pacts.length bk,pacts⟩:TxnQ)]).length (txnK.row (qs ++ [(⟨pi,psn,pq,.slice ba pacts.length bk,pacts⟩:TxnQ)])):=by rw [hrow,List.length_append];exact hown
        have hb5:Below w.heap.size w w5:=hbB.grown hgrow hbB.size (fun j hj=>by have:=(hOA.lt j hj).1;omega)
        have hC5:Cts w5 w.heap.size (nms ((qs ++ [(⟨pi,psn,pq,.slice ba pacts.length bk,pacts⟩:TxnQ)]).map TxnQ.e)):=by
         rw [HNS.out]
         exact hCA.kept hgrow (fun e=>by have:=(hOA.lt _ e.symm).1;omega)
        clear hown hgrow hnil hat hrow hOA hCA hbB
        go_wp2
        go_roundw
        case rel=>exact ⟨i + 1,qs ++ [(⟨pi,psn,pq,.slice ba pacts.length bk,pacts⟩:TxnQ)],by omega,rfl,by go_num,HE2,hown5,HM2,hC5,hb5⟩
        case measure=>simp [intOf];omega
   ·have hil:i=rs.length:=by omega
    subst hil
    have hE:=HE.out
    rw [List.take_of_length_le (by have:=HLEN.out;omega)] at hE
    have hL:qs.length≤16:=by
     have e9:qs.length=(qs.map TxnQ.e).length:=by simp
     have:=onc_len (ps.map TxnQ.e) []
     rw [e9,hE]
     simp only [List.length_map,List.length_nil] at this
     omega
    have hR:∀ q∈qs,txnK.rd w q:=fun q hq=>by
     obtain ⟨a9,c9,e9,hL9,hr9⟩:=h
     exact hr9 q (HM.out q hq)
    have hO9:=own_lo hO (Nat.le_succ w.heap.size)
    go_wp2
    first | go_ret | (simp only [Exit.jump];go_ret)
    first | exact ⟨_,qs,rfl,hE,hL,hO9,hR,hb⟩ | exact ⟨_,rfl,qs,hE,hL,hO9,hR,hb⟩

end Go.Proofs.YtjjoahhnkpjolaaGreatDoor
namespace Go.Proofs.YtjjoahhnkpjolaaGreatDoor
open Go.RowKit
open Go.BigFrame
set_option maxRecDepth 100000
theorem row_cap {w:World} {base e size n:Nat} {v:Value} {xs:List Value} (h:w.ownsRow base e size v n xs):CapOk v:=by
 rcases h.2 with ⟨rfl,_⟩ | ⟨g,c,cur,rfl,_,_,h1,h2,_⟩
 ·exact ⟨Nat.le_refl _,by decide⟩
 ·exact ⟨h1,h2⟩

theorem bat_F {bs:List TxnD} (h:batF bs=0):∀ t∈bs,t.F=0:=by
 unfold batF at h
 split at h
 ·exact absurd h (by decide)
 ·split at h
  ·rename_i h1 h2
   exact allF_mem h2
  ·rename_i h1 h2
   exact absurd h h2

theorem ins_F {x:InstE} (h:insF x=0):∀ t∈x.batch,t.F=0:=by
 obtain ⟨h0,_⟩:=ins_zero h
 obtain ⟨_,_,_,hb0,hb1⟩:=shp_zero h0
 cases hh:x.has with
 | false=>
  rw [hb0 hh]
  intro t ht
  simp at ht
 | true=>exact bat_F (hb1 hh)

theorem tak_F {ds:List InstE} (h:∀ x∈ds,insF x=0):∀ t∈takF ds,t.F=0:=by
 intro t ht
 unfold takF at ht
 obtain ⟨x,hx,ht⟩:=List.mem_flatMap.1 ht
 split at ht
 ·exact ins_F (h x hx) t ht
 ·simp at ht

theorem wf_small (n:Int) (h1:-1000≤n) (h2:n≤1000):(Lit.int .i64 n).wf=true:=by
 have e1:IntKind.i64.min=-9223372036854775808:=by decide
 have e2:IntKind.i64.max=9223372036854775807:=by decide
 show (decide (IntKind.i64.min≤n) && decide (n≤IntKind.i64.max))=true
 rw [e1,e2,Bool.and_eq_true,decide_eq_true_eq,decide_eq_true_eq]
 omega

theorem nm_ok {t:TxnD} (h:t.F=0):1≤t.id∧nmW (nmA t)∧nmW (nmB t):=by
 obtain ⟨⟨h1,h2⟩,⟨h3,h4⟩,⟨h5,h6⟩,_⟩:=txnF_zero h
 exact ⟨h1,⟨wf_small t.id (by omega) (by omega),wf_small 0 (by decide) (by decide),wf_small 0 (by decide) (by decide)⟩,⟨wf_small 0 (by decide) (by decide),wf_small t.session (by omega) (by omega),wf_small t.seq (by omega) (by omega)⟩⟩

theorem few_n7 {qs:List TxnQ} (h:∀ t∈qs.map TxnQ.e,t.F=0):nmL TxnQ.n qs≤4 * qs.length:=by
 induction qs with
 | nil=>simp [nmL]
 | cons q r ih=>
  have h1:(TxnQ.e q).F=0:=h _ (by simp)
  have h2:=(txnF_zero h1).2.2.2.1.2
  have h3:q.acts.length≤4:=h2
  have:=ih (fun t ht=>h t (by simp only [List.map_cons,List.mem_cons];exact Or.inr ht))
  simp only [nmL,List.map_cons,List.sum_cons,List.length_cons,TxnQ.n] at this ⊢
  omega

theorem tak_len {ds:List InstE} (h:∀ x∈ds,insF x=0):(takF ds).length≤4 * ds.length:=by
 unfold takF
 induction ds with
 | nil=>simp
 | cons x r ih=>
  have h1:=h x (by simp)
  have:=ih (fun y hy=>h y (List.mem_cons_of_mem _ hy))
  simp only [List.flatMap_cons,List.length_append,List.length_cons]
  have h2:x.batch.length≤4:=by
   obtain ⟨h0,_⟩:=ins_zero h1
   obtain ⟨_,_,_,hb0,hb1⟩:=shp_zero h0
   cases hh:x.has with
   | false=>rw [hb0 hh];simp
   | true=>
    have h3:=hb1 hh
    unfold batF at h3
    split at h3
    ·exact absurd h3 (by decide)
    ·omega
  split
  ·omega
  ·simp only [List.length_nil];omega

theorem sz_txr:(Tryz.prog.info? 99).map (·.size)=some 2:=by kernel_rfl

theorem def_F {ds:List InstE} (h:∀ x∈ds,insF x=0) (m:Nat):∀ t∈defL ds m,t.F=0:=by
 intro t ht
 rcases onc_sub _ _ t ht with ht | ht
 ·simp at ht
 ·exact tak_F (fun x hx=>h x (List.mem_of_mem_take hx)) t ht

set_option maxRecDepth 100000 in
set_option maxHeartbeats 8000000 in
theorem implDefiniteOf_any (v:Value) (ps:List InstQ) (n:Int) (w:World) (hG:Rul w) (h:instK.At w v ps) (hcp:CapOk v) (hl:(ps.length + nmL InstQ.n ps)≤1048576) :
  Calls Tryz.prog 50 #[v,.int .i64 n] w fun e w' => ∃ (v' : Value) (qs:List TxnQ),e=.returned (.agg #[.int .i64 (dfC (ps.map InstQ.e) n),v'])∧qs.map TxnQ.e=dfT (ps.map InstQ.e) n∧txnK.Own w' v' qs∧(txnK.fp v' qs).Nodup∧(∀ k∈txnK.fp v' qs,w.heap.size≤k)∧Below w.heap.size w w' := by
 have hB:Below w.heap.size w (w.alloc (.cells #[.int .i64 0,.slice none 0 0] 99)):=by go_grown
 have Rb:=Blk.new w 99 #[.int .i64 0,.slice none 0 0]
 have hdi:=implDecidedIn_any v ps _ (hG.below hB) (h.below hB) hl
 have HO:Hid (ordF (ps.map InstQ.e)=0→ps.length≤4∧∀ q∈ps,insF (InstQ.e q)=0):=fun h0=>by
  have:=((ord_iff _).1 h0).1
  rw [List.length_map] at this
  exact ⟨this.2,fun q hq=>ord_mem h0 _ (List.mem_map.2 ⟨q,hq,rfl⟩)⟩
 have HV:Hid (ordF (ps.map InstQ.e)=0→diV (ps.map InstQ.e)=(decN (ps.map InstQ.e):Int)):=fun h0=>if_pos h0
 have hw:=df_ways (ps.map InstQ.e) n
 have HWW:Hid _:=hw
 clear hw
 have hdl:decN (ps.map InstQ.e)≤ps.length:=by simpa using decN_le (ps.map InstQ.e)
 obtain ⟨a,cap,rfl⟩:=h.shape
 obtain ⟨hcp1,hcp2⟩:ps.length≤cap∧cap≤maxLen:=hcp
 generalize dfC (ps.map InstQ.e) n=D at *
 generalize dfT (ps.map InstQ.e) n=O at *
 generalize ordF (ps.map InstQ.e)=C at *
 generalize diV (ps.map InstQ.e)=V at *
 generalize decN (ps.map InstQ.e)=M at *
 go_enter Tryz.func50,Tryz.ntmps50
 go_wp2_with fail
 refine hdi.mono ?_
 rintro e w1 ⟨rfl,hb1⟩
 replace hB:=hB.trans (hb1.mono hB.size)
 replace Rb:=Rb.below hb1
 clear hdi hb1
 have hbA:Below w1.heap.size w1 (w1.alloc (.cells #[.int .i64 C,.int .i64 V] 42)):=by go_grown
 have Cb:=Blk.new w1 42 #[.int .i64 C,.int .i64 V]
 replace hB:=hB.trans (hbA.mono hB.size)
 have hr1:w.heap.size < w1.heap.size:=Rb.lt
 replace Rb:=Rb.below hbA
 clear hbA
 by_cases hC:C=0
 ·have hv:=HV.out hC
  obtain ⟨h4,hin⟩:=HO.out hC
  have hin' : ∀ p∈ps,insF (InstQ.e p)=0:=hin
  subst hC
  subst hv
  clear HV HO
  have c1:=Cb.cell 1 _ rfl
  have c0:=Cb.cell 0 _ rfl
  have hiw:=fun w=>isWithin_any n 0 (M:Int) w
  go_wp2_with fail
  clear c0 c1
  generalize w1.alloc (.cells #[.int .i64 0,.int .i64 M] 42)=X at *
  refine (hiw X).mono ?_
  rintro e w2 ⟨rfl,hw2⟩
  replace hw2:=hw2.symm
  subst hw2
  by_cases hin0:0≤n∧n≤(M:Int)
  ·have hiW:inW n 0 (M:Int)=true:=by unfold inW;rw [decide_eq_true hin0.1,decide_eq_true hin0.2];rfl
   obtain ⟨m,rfl⟩:∃ m:Nat,n=(m:Int):=⟨n.toNat,by omega⟩
   have hm:m≤ps.length:=by omega
   have E0:Hid (D=0∧O=defL (ps.map InstQ.e) m):=by
    rcases HWW.out with ⟨h0,_⟩ | ⟨_,h0,_⟩ | ⟨_,_,h0,h1⟩
    ·exact absurd rfl h0
    ·exact absurd hin0 h0
    ·exact ⟨h0,by simpa using h1⟩
   clear HWW
   rw [hiW]
   have hT:=h.takeK m hm
   have htk:=takenIn_any (.slice a m cap) (ps.take m) X (hG.below hB) (hT.below hB) (fun p hp=>hin p (List.mem_of_mem_take hp)) (by rw [List.length_take];omega) (by have:=nmL_le InstQ.n ps m;rw [List.length_take];omega)
   have hm0:(0:Int)≤(m:Int):=by omega
   have hmc:(m:Int)≤(cap:Int):=by omega
   have hmc' : m≤cap:=by omega
   have HTF:Hid (∀ t∈takF ((ps.take m).map InstQ.e),t.F=0):=tak_F (fun x hx=>by
    obtain ⟨p,hp,rfl⟩:=List.mem_map.1 hx
    exact hin p (List.mem_of_mem_take hp))
   have HDL:Hid (onc [] (takF ((ps.take m).map InstQ.e))=defL (ps.map InstQ.e) m):=show _=_ by unfold defL;rw [List.map_take]
   clear hiw hin hin' hT
   have hXr:w.heap.size < X.heap.size:=Rb.lt
   go_wp2_with fail
   refine htk.mono ?_
   rintro e w3 ⟨v3,q3,rfl,e3,l3,o3,rd3,hb3⟩
   replace Rb:=Rb.below hb3
   have hB3:=hB.trans (hb3.mono hB.size)
   have F3:∀ t∈q3.map TxnQ.e,t.F=0:=fun t ht=>HTF.out t (by rw [← e3];exact ht)
   have at3:txnK.At w3 v3 q3:=Kind.at_of_row o3 (fun q hq=>txnK.rd_below (rd3 q hq) hb3)
   have hoe:=onceEach_any v3 q3 w3 at3 (row_cap o3) l3 (fun p hp=>nm_ok (t:=TxnQ.e p) (F3 _ (List.mem_map.2 ⟨p,hp,rfl⟩)))
   rw [e3,HDL.out] at hoe
   obtain ⟨a3,c3,rfl⟩:=own_shape o3
   clear htk o3 rd3 at3 HTF HDL hb3 hB
   go_wp2_with fail
   refine hoe.mono ?_
   rintro e w4 ⟨v4,q4,rfl,e4,l4,o4,rd4,hb4⟩
   replace Rb:=Rb.below hb4
   have hB4:=hB3.trans (hb4.mono hB3.size)
   have F4:∀ t∈q4.map TxnQ.e,t.F=0:=fun t ht=>by
    rw [e4] at ht
    rcases onc_sub _ _ t ht with ht | ht
    ·simp at ht
    ·exact F3 t (by rw [e3,List.map_take];exact ht)
   have at4:txnK.At w4 v4 q4:=Kind.at_of_row o4 (fun q hq=>txnK.rd_below (rd4 q hq) hb4)
   have hcl:=cloneTxns_any v4 q4 w4 at4 (fun p hp=>by
    have:=(txnF_zero (F4 _ (List.mem_map.2 ⟨p,hp,rfl⟩))).2.2.2.1.1
    have h9:1≤p.acts.length:=this
    omega) (by have:=few_n7 F4;omega)
   rw [e4] at hcl
   obtain ⟨a4,c4,rfl⟩:=own_shape o4
   have hX4:w.heap.size < w4.heap.size:=Rb.lt
   clear hoe o4 rd4 at4 hb4 hB3 F3 F4 e3 e4
   go_wp2_with fail
   refine hcl.mono ?_
   rintro e w5 ⟨v5,q5,rfl,e5,o5,n5,g5,hb5⟩
   replace Rb:=Rb.below hb5
   have hB5:=hB4.trans (hb5.mono hB4.size)
   obtain ⟨a5,c5,rfl⟩:=o5.shape
   have E5:Hid (q5.map TxnQ.e=O):=show _=_ by rw [E0.out.2];exact e5
   have ED:Hid (D=0):=E0.out.1
   clear hcl hb5 hB4 e5 E0
   have KF:=below_row hB5 (Nat.le_refl w.heap.size) #[.int .i64 0,.slice a5 q5.length c5]
   have O5:Hid _:=o5.out (out_row _ w.heap.size #[.int .i64 0,.slice a5 q5.length c5]) (fun k hk=>by have:=g5 k hk;simp only [List.mem_singleton];omega)
   have g6:∀ k∈txnK.fp (.slice a5 q5.length c5) q5,w.heap.size≤k:=fun k hk=>by have:=g5 k hk;omega
   have Rr:=Rb.row #[.int .i64 0,.slice a5 q5.length c5]
   go_wp2_with (first | (refine st_row (by kernel_rfl) 99 _ _ rfl _ #[.int .i64 0,.slice a5 q5.length c5] rfl rfl 99 _ Rb sz_txr rfl (by simp [Value.oneCell']) ?_))
   obtain ⟨y0,y1⟩:=Rr.cel2
   refine bodyPost_ret (v:=.agg #[.int .i64 0,.slice a5 q5.length c5]) (by simp [results,Tryz.results50,go_sem,y0,y1]) rfl ?_
   exact ⟨_,q5,by rw [ED.out],E5.out,O5.out,n5,g6,KF⟩
  ·have hiW:inW n 0 (M:Int)=false:=by
    unfold inW
    rw [Bool.and_eq_false_iff,decide_eq_false_iff_not,decide_eq_false_iff_not]
    omega
   have E0:Hid (D=3∧O=[]):=by
    rcases HWW.out with ⟨h0,_⟩ | ⟨_,_,h0,h1⟩ | ⟨_,h0,_⟩
    ·exact absurd rfl h0
    ·exact ⟨h0,h1⟩
    ·exact absurd h0 hin0
   clear HWW
   rw [hiW]
   obtain ⟨hn1,hn2⟩:=Kind.own_nil (K:=txnK) (X.setRow w.heap.size #[.int .i64 3,.slice none 0 0])
   have KF:=below_row hB (Nat.le_refl w.heap.size) #[.int .i64 3,.slice none 0 0]
   have Rr:=Rb.row #[.int .i64 3,.slice none 0 0]
   go_wp2_with (first | (refine st_row (by kernel_rfl) 99 _ _ rfl _ #[.int .i64 3,.slice none 0 0] rfl rfl 99 _ Rb sz_txr rfl (by simp [Value.oneCell']) ?_))
   obtain ⟨y0,y1⟩:=Rr.cel2
   refine bodyPost_ret (v:=.agg #[.int .i64 3,.slice none 0 0]) (by simp [results,Tryz.results50,go_sem,y0,y1]) rfl ?_
   exact ⟨_,[],by rw [E0.out.1],by rw [E0.out.2];rfl,hn1,by rw [hn2];simp,by rw [hn2];simp,KF⟩
 ·have E0:Hid (D=C∧O=[]):=by
   rcases HWW.out with ⟨_,h0,h1⟩ | ⟨h0,_⟩ | ⟨h0,_⟩
   ·exact ⟨h0,h1⟩
   ·exact absurd h0 hC
   ·exact absurd h0 hC
  clear HWW HV HO
  have hC' : (C != 0)=true:=by simpa using hC
  obtain ⟨c0,c1⟩:=Cb.cel2
  obtain ⟨hn1,hn2⟩:=Kind.own_nil (K:=txnK) ((w1.alloc (.cells #[.int .i64 C,.int .i64 V] 42)).setRow w.heap.size #[.int .i64 C,.slice none 0 0])
  have KF:=below_row hB (Nat.le_refl w.heap.size) #[.int .i64 C,.slice none 0 0]
  have Rr:=Rb.row #[.int .i64 C,.slice none 0 0]
  go_wp2_with (first | (refine st_row (by kernel_rfl) 99 _ _ rfl _ #[.int .i64 C,.slice none 0 0] rfl rfl 99 _ Rb sz_txr rfl (by simp [Value.oneCell']) ?_))
  obtain ⟨y0,y1⟩:=Rr.cel2
  refine bodyPost_ret (v:=.agg #[.int .i64 C,.slice none 0 0]) (by simp [results,Tryz.results50,go_sem,y0,y1]) rfl ?_
  exact ⟨_,[],by rw [E0.out.1],by rw [E0.out.2];rfl,hn1,by rw [hn2];simp,by rw [hn2];simp,KF⟩

theorem dfT_n {ps:List InstQ} {n:Int} {qs:List TxnQ} (h:qs.map TxnQ.e=dfT (ps.map InstQ.e) n) (_:ps.length + nmL InstQ.n ps≤1048576):qs.length + nmL TxnQ.n qs≤1048576:=by
 rcases df_ways (ps.map InstQ.e) n with ⟨_,_,e⟩ | ⟨_,_,_,e⟩ | ⟨h0,h1,_,e⟩
 ·rw [e] at h
  have:qs=[]:=List.map_eq_nil_iff.1 h
  subst this
  simp [nmL]
 ·rw [e] at h
  have:qs=[]:=List.map_eq_nil_iff.1 h
  subst this
  simp [nmL]
 ·rw [e] at h
  have hF:∀ t∈qs.map TxnQ.e,t.F=0:=fun t ht=>def_F (ord_mem h0) _ t (by rw [← h];exact ht)
  have h4:=few_n7 hF
  have h16:qs.length≤16:=by
   have e1:qs.length=(qs.map TxnQ.e).length:=by simp
   rw [e1,h]
   have:=onc_len (takF ((ps.map InstQ.e).take n.toNat)) []
   have h5:=tak_len (ds:=(ps.map InstQ.e).take n.toNat) (fun x hx=>ord_mem h0 x (List.mem_of_mem_take hx))
   have h6:=((ord_iff _).1 h0).1.2
   rw [List.length_take] at h5
   unfold defL
   simp only [List.length_nil] at this
   omega
  omega

end Go.Proofs.YtjjoahhnkpjolaaGreatDoor
namespace Go.Proofs.YtjjoahhnkpjolaaGreatDoor
open Go.RowKit Go.Deep Go.ChangeShapes Go.WideShapes
set_option maxRecDepth 100000
set_option maxRecDepth 100000
section
variable {H:Type} {enc:TypeId × Value→H} {w:World} {base:Nat} {spare:Nat→Bool} {held:Bool}
theorem open_instK (n:Nat) (l:List Value) (y:DataW H × List MemPlace) (h:DataW.trod enc Tryz.prog w base spare held n 77 l=some y):∃ p:InstQ,l=instK.cells p∧instK.rd w p∧InstQ.wf p:=by
 obtain ⟨p,e,h1,h2⟩:=open_instCells h
 exact ⟨p,e,h1,h2⟩

end
end Go.Proofs.YtjjoahhnkpjolaaGreatDoor
namespace Go.Proofs.YtjjoahhnkpjolaaGreatDoor
open Go.RowKit Go.Deep Go.ChangeShapes Go.WideShapes
set_option maxRecDepth 100000
set_option maxRecDepth 100000
section
variable {H:Type} {enc:TypeId × Value→H} {w:World} {base:Nat} {spare:Nat→Bool} {held:Bool}
theorem trod_struct5 {P:Program} {t:TypeId} {f0 f1 f2 f3 f4:Field} {fuel:Nat} {cs:List Value} {x:DataW H × List MemPlace} (ht:P.underlying t=some (.struct #[f0,f1,f2,f3,f4])) (h:DataW.trod enc P w base spare held fuel t cs=some x) :
  ∃ y0 y1 y2 y3 y4 n,cs.length=P.cellsOf t∧DataW.trod enc P w base spare held n f0.type ((cs.drop f0.offset).take (P.cellsOf f0.type))=some y0 ∧
   DataW.trod enc P w base spare held n f1.type ((cs.drop f1.offset).take (P.cellsOf f1.type))=some y1∧DataW.trod enc P w base spare held n f2.type ((cs.drop f2.offset).take (P.cellsOf f2.type))=some y2 ∧
   DataW.trod enc P w base spare held n f3.type ((cs.drop f3.offset).take (P.cellsOf f3.type))=some y3∧DataW.trod enc P w base spare held n f4.type ((cs.drop f4.offset).take (P.cellsOf f4.type))=some y4:=by
 obtain ⟨xs,n,_,rfl,hl,hlen,hf⟩:=DataW.trod_struct ht h
 match xs,hlen with
 | [y0,y1,y2,y3,y4],_=>exact ⟨y0,y1,y2,y3,y4,n,hl,by simpa using hf 0 f0 rfl,by simpa using hf 1 f1 rfl,by simpa using hf 2 f2 rfl,by simpa using hf 3 f3 rfl,by simpa using hf 4 f4 rfl⟩

set_option maxRecDepth 100000 in
theorem open_item {fuel:Nat} {cs:List Value} {x:DataW H × List MemPlace} (h:DataW.trod enc Tryz.prog w base spare held fuel 241 cs=some x):∃ z:ItemD,cs=z.cells:=by
 obtain ⟨y0,y1,n,_,hl,h0,h1⟩:=trod_struct2 Tryz.underlying241 h
 rw [show Tryz.prog.cellsOf 241=2 by kernel_rfl] at hl
 have e:Tryz.prog.cellsOf 2=1:=by kernel_rfl
 match cs,hl with
 | [c0,c1],_=>
  simp only [e,List.drop_zero,List.drop_succ_cons,List.take_succ_cons,List.take_zero] at h0 h1
  obtain ⟨k,e0,_⟩:=DataW.trod_int Tryz.underlying2 h0
  obtain ⟨y,e1,_⟩:=DataW.trod_int Tryz.underlying2 h1
  simp only [List.cons.injEq,and_true] at e0 e1
  exact ⟨⟨k,y⟩,by rw [e0,e1];rfl⟩

set_option maxRecDepth 100000 in
theorem open_undo {fuel:Nat} {cs:List Value} {x:DataW H × List MemPlace} (h:DataW.trod enc Tryz.prog w base spare held fuel 288 cs=some x):∃ z:UndoD,cs=z.cells:=by
 obtain ⟨y0,y1,y2,n,_,hl,h0,h1,h2⟩:=trod_struct3 Tryz.underlying288 h
 rw [show Tryz.prog.cellsOf 288=3 by kernel_rfl] at hl
 have e:Tryz.prog.cellsOf 2=1:=by kernel_rfl
 have e' : Tryz.prog.cellsOf 4=1:=by kernel_rfl
 match cs,hl with
 | [c0,c1,c2],_=>
  simp only [e,e',List.drop_zero,List.drop_succ_cons,List.take_succ_cons,List.take_zero] at h0 h1 h2
  obtain ⟨k,e0,_⟩:=DataW.trod_int Tryz.underlying2 h0
  obtain ⟨y,e1,_⟩:=DataW.trod_bool Tryz.underlying4 h1
  obtain ⟨v,e2,_⟩:=DataW.trod_int Tryz.underlying2 h2
  simp only [List.cons.injEq,and_true] at e0 e1 e2
  exact ⟨⟨k,y,v⟩,by rw [e0,e1,e2];rfl⟩

theorem open_itemK (n:Nat) (l:List Value) (y:DataW H × List MemPlace) (h:DataW.trod enc Tryz.prog w base spare held n 241 l=some y):∃ p:ItemD,l=itemK.cells p∧itemK.rd w p∧True:=by
 obtain ⟨z,e⟩:=open_item h
 exact ⟨z,e,trivial,trivial⟩

theorem open_itemsK {fuel:Nat} {cs:List Value} {x:DataW H × List MemPlace} (h:DataW.trod enc Tryz.prog w base spare held fuel 79 cs=some x) :
  ∃ (v:Value) (zs:List ItemD),cs=[v]∧itemK.At w v zs∧zs.length≤9223372036854775807:=by
 obtain ⟨v,ps,h1,h2,h3,_⟩:=open_kind itemK (fun _=>True) Tryz.underlying79 (by kernel_rfl) (by decide) open_itemK h
 exact ⟨v,ps,h1,h2,h3⟩

theorem open_undoK (n:Nat) (l:List Value) (y:DataW H × List MemPlace) (h:DataW.trod enc Tryz.prog w base spare held n 288 l=some y):∃ p:UndoD,l=undoK.cells p∧undoK.rd w p∧True:=by
 obtain ⟨z,e⟩:=open_undo h
 exact ⟨z,e,trivial,trivial⟩

theorem open_undosK (n:Nat) (l:List Value) (y:DataW H × List MemPlace) (h:DataW.trod enc Tryz.prog w base spare held n 228 l=some y):∃ p:USQ,l=ussK.cells p∧ussK.rd w p∧USQ.wf p:=by
 obtain ⟨v,ps,h1,h2,h3,_⟩:=open_kind undoK (fun _=>True) Tryz.underlying228 (by kernel_rfl) (by decide) open_undoK h
 exact ⟨⟨v,ps⟩,h1,h2,h3⟩

theorem open_ussK {fuel:Nat} {cs:List Value} {x:DataW H × List MemPlace} (h:DataW.trod enc Tryz.prog w base spare held fuel 80 cs=some x) :
  ∃ (v:Value) (ps:List USQ),cs=[v]∧ussK.At w v ps∧ps.length≤9223372036854775807∧∀ p∈ps,USQ.wf p:=
 open_kind ussK USQ.wf Tryz.underlying80 (by kernel_rfl) (by decide) open_undosK h

theorem open_repCells {fuel:Nat} {cs:List Value} {x:DataW H × List MemPlace} (h:DataW.trod enc Tryz.prog w base spare held fuel 82 cs=some x) :
  ∃ p:RepQ,cs=[p.vd,p.vb,p.vt,p.vu,p.vn]∧repK.rd w p∧p.wf:=by
 obtain ⟨y0,y1,y2,y3,y4,n,hl,h0,h1,h2,h3,h4⟩:=trod_struct5 Tryz.underlying82 h
 rw [show Tryz.prog.cellsOf 82=5 by kernel_rfl] at hl
 have e:Tryz.prog.cellsOf 73=1:=by kernel_rfl
 have e' : Tryz.prog.cellsOf 79=1:=by kernel_rfl
 have e2:Tryz.prog.cellsOf 80=1:=by kernel_rfl
 match cs,hl with
 | [c0,c1,c2,c3,c4],_=>
  simp only [e,e',e2,List.drop_zero,List.drop_succ_cons,List.take_succ_cons,List.take_zero] at h0 h1 h2 h3 h4
  obtain ⟨v0,z0,e0,a0,l0,w0⟩:=open_txnsK h0
  obtain ⟨v1,z1,e1,a1,l1⟩:=open_itemsK h1
  obtain ⟨v2,z2,e2,a2,l2,w2⟩:=open_txnsK h2
  obtain ⟨v3,z3,e3,a3,l3,w3⟩:=open_ussK h3
  obtain ⟨v4,z4,e4,a4,l4⟩:=open_itemsK h4
  simp only [List.cons.injEq,and_true] at e0 e1 e2 e3 e4
  exact ⟨⟨v0,z0,v1,z1,v2,z2,v3,z3,v4,z4⟩,by rw [e0,e1,e2,e3,e4],⟨a0,a1,a2,a3,a4⟩,⟨⟨l0,w0⟩,l1,⟨l2,w2⟩,⟨l3,w3⟩,l4⟩⟩

end
end Go.Proofs.YtjjoahhnkpjolaaGreatDoor
namespace Go.Proofs.YtjjoahhnkpjolaaGreatDoor
open Go.RowKit Go.Deep Go.ChangeShapes Go.WideShapes
set_option maxRecDepth 100000
set_option maxRecDepth 100000
section
variable {H:Type} {enc:TypeId × Value→H} {w:World} {base:Nat} {spare:Nat→Bool} {held:Bool}
set_option maxRecDepth 100000 in
theorem open_nodeCells {fuel:Nat} {cs:List Value} {x:DataW H × List MemPlace} (h:DataW.trod enc Tryz.prog w base spare held fuel 84 cs=some x) :
  ∃ (kn sf:Int) (p:RepQ),cs=[.int .i64 kn,.int .i64 sf,p.vd,p.vb,p.vt,p.vu,p.vn]∧repK.rd w p∧p.wf:=by
 obtain ⟨y0,y1,y2,n,_,hl,h0,h1,h2⟩:=trod_struct3 Tryz.underlying84 h
 rw [show Tryz.prog.cellsOf 84=7 by kernel_rfl] at hl
 have e:Tryz.prog.cellsOf 2=1:=by kernel_rfl
 have e' : Tryz.prog.cellsOf 82=5:=by kernel_rfl
 match cs,hl with
 | [c0,c1,c2,c3,c4,c5,c6],_=>
  simp only [e,e',List.drop_zero,List.drop_succ_cons,List.take_succ_cons,List.take_zero] at h0 h1 h2
  obtain ⟨k,e0,_⟩:=DataW.trod_int Tryz.underlying2 h0
  obtain ⟨s,e1,_⟩:=DataW.trod_int Tryz.underlying2 h1
  obtain ⟨p,e2,r,wf⟩:=open_repCells h2
  simp only [List.cons.injEq,and_true] at e0 e1 e2
  exact ⟨k,s,p,by rw [e0,e1,e2.1,e2.2.1,e2.2.2.1,e2.2.2.2.1,e2.2.2.2.2],r,wf⟩

end
end Go.Proofs.YtjjoahhnkpjolaaGreatDoor
namespace Go.Proofs.YtjjoahhnkpjolaaGreatDoor
open Go.RowKit Go.Deep Go.ChangeShapes Go.WideShapes
set_option maxRecDepth 100000
set_option maxRecDepth 100000
section
variable {H:Type} {enc:TypeId × Value→H} {w:World} {base:Nat} {spare:Nat→Bool} {held:Bool}
theorem open_nodeK (n:Nat) (l:List Value) (y:DataW H × List MemPlace) (h:DataW.trod enc Tryz.prog w base spare held n 84 l=some y):∃ p:NodeQ,l=nodeK.cells p∧nodeK.rd w p∧NodeQ.wf p:=by
 obtain ⟨kn,sf,p,e,h1,h2⟩:=open_nodeCells h
 exact ⟨NodeQ.of kn sf p,e,h1,h2⟩

theorem open_cluV {r:Reach} {b0:Nat} {v:Value} {d:DataW H} {p:List MemPlace} (hv:Value.okWide Tryz.prog w r b0 25 v) (h:DataW.Trod enc Tryz.prog w base spare held 25 v d p) :
  ∃ q:CluQ,v=.agg #[q.vo,q.vm]∧cluK.rd w q∧q.wf:=by
 obtain ⟨cs,rfl,hsz⟩:=okWide_struct Tryz.underlying25 hv
 obtain ⟨fuel,hf⟩:=h
 obtain ⟨y0,y1,n,_,hl,h0,h1⟩:=trod_struct2 Tryz.underlying25 hf
 rw [show Tryz.prog.cellsOf 25=2 by kernel_rfl] at hl
 have e0:Tryz.prog.cellsOf 22=1:=by kernel_rfl
 have e1:Tryz.prog.cellsOf 23=1:=by kernel_rfl
 obtain ⟨l⟩:=cs
 match l,hl with
 | [c0,c1],_=>
  simp only [Value.cells,e0,e1,List.drop_zero,List.drop_succ_cons,List.take_succ_cons,List.take_zero] at h0 h1
  obtain ⟨v0,ps,f0,r0,l0,w0⟩:=open_kind instK InstQ.wf Tryz.underlying22 (by kernel_rfl) (by decide) open_instK h0
  obtain ⟨v1,qs,f1,r1,l1,w1⟩:=open_kind nodeK NodeQ.wf Tryz.underlying23 (by kernel_rfl) (by decide) open_nodeK h1
  simp only [List.cons.injEq,and_true] at f0 f1
  subst f0 f1
  exact ⟨⟨c0,ps,c1,qs⟩,rfl,⟨r0,r1⟩,⟨l0,w0⟩,⟨l1,w1⟩⟩

end
end Go.Proofs.YtjjoahhnkpjolaaGreatDoor
namespace Go.Proofs.YtjjoahhnkpjolaaGreatDoor
open Go.RowKit Go.ChangeShapes Go.WideShapes
set_option maxRecDepth 100000
theorem rul_of_met {W : World} (h : laidMet Tryz.prog [("loop.example/g00631/impl.rules", Rows.laid_loop_example_g00631_impl_rules)] W) : Rul W := by
 obtain ⟨g,t,cs,fuel,p,hg,ht,hvar,hd⟩:=Lib.laidMet.reads h (List.mem_singleton.2 rfl)
 obtain rfl:=Option.some.inj (gRul.symm.trans hg)
 obtain rfl:=Option.some.inj (tRul.symm.trans ht)
 unfold Rows.laid_loop_example_g00631_impl_rules at hd
 have e:∀ i,i < 5→∃ fuel' d q,_∧_:=fun i hi=>Lib.array_elem Tryz.underlying366 hd i hi
 rw [cRule] at e
 obtain ⟨f0,d0,q0,r0,s0⟩:=e 0 (by omega)
 obtain ⟨f1,d1,q1,r1,s1⟩:=e 1 (by omega)
 obtain ⟨f2,d2,q2,r2,s2⟩:=e 2 (by omega)
 obtain ⟨f3,d3,q3,r3,s3⟩:=e 3 (by omega)
 obtain ⟨f4,d4,q4,r4,s4⟩:=e 4 (by omega)
 simp only [List.getElem?_cons_zero,List.getElem?_cons_succ,Option.some.injEq] at r0 r1 r2 r3 r4
 subst r0 r1 r2 r3 r4
 have t0:=rule_cells s0
 have t1:=rule_cells s1
 have t2:=rule_cells s2
 have t3:=rule_cells s3
 have t4:=rule_cells s4
 have hall:cs.toList.take 35=rulL:=by
  rw [show 35=0 * 7 + 7 + 7 + 7 + 7 + 7 from rfl,List.take_add,List.take_add,List.take_add,List.take_add]
  rw [show 0 * 7 + 7 + 7 + 7 + 7=4 * 7 from rfl,show 0 * 7 + 7 + 7 + 7=3 * 7 from rfl,show 0 * 7 + 7 + 7=2 * 7 from rfl,show 0 * 7 + 7=1 * 7 from rfl,t1,t2,t3,t4]
  have t0' : List.take (1 * 7) cs.toList=_:=t0
  rw [t0']
  rfl
 intro i v hv
 have hi:i < 35:=by
  have:=(List.getElem?_eq_some_iff.1 hv).1
  simpa [rulL] using this
 rw [World.var?_cell hg hvar i,← Array.getElem?_toList]
 rw [← hall,List.getElem?_take,if_pos hi] at hv
 exact hv

end Go.Proofs.YtjjoahhnkpjolaaGreatDoor

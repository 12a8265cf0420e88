/- Texts joined, with what the laws reach alone. -/
import Derived.Test.YtpmkhnakgeillaaGreatDoorSNAR
import Derived.ScopeJumps
import Derived.WalkMore
set_option linter.unusedVariables false
set_option linter.unusedSimpArgs false
namespace Go.Proofs.YtpmkhnakgeillaaGreatDoor
open Go.RowKit Go.Maps
open Go.BigFrame
set_option maxRecDepth 100000
theorem Cts.below {w w' : World} {b:Nat} {ns:List Nm} (h:Cts w b ns) (hb:Below w.heap.size w w'):Cts w' b ns:=by
 obtain ⟨D,h,hc⟩:=h
 have hlt:=h.lt
 obtain ⟨es,clock,h1,r⟩:=h
 exact ⟨D,⟨es,clock,(hb.block b hlt).trans h1,r⟩,hc⟩

theorem Cts.drew {w:World} {b:Nat} {ns:List Nm} (h:Cts w b ns):Cts w.drew b ns:=h

theorem below_drew {B:Nat} {w w' : World} (h:Below B w w'):Below B w w'.drew:=⟨h.os,h.tape,h.output,h.size,h.block⟩

theorem own_drew {w:World} {base e size n:Nat} {v:Value} {xs:List Value} (h:w.ownsRow base e size v n xs):w.drew.ownsRow base e size v n xs:=h

theorem blk_drew {w:World} {b:Nat} {t:TypeId} {cs:Array Value} (h:Blk w b t cs):Blk w.drew b t cs:=h

theorem own_map {w w' : World} {M e size n:Nat} {v:Value} {xs:List Value} (h:w.ownsRow (M + 1) e size v n xs) (ht:w.mapTurned w' M):w'.ownsRow (M + 1) e size v n xs:=by
 refine h.kept ht.grown ?_
 cases hv:v.ownBlock with
 | none=>exact Or.inl rfl
 | some k=>
  have:=(h.lt k hv).1
  exact Or.inr (fun e=>by simp at e;omega)

theorem blk_map {w w' : World} {b M:Nat} {t:TypeId} {cs:Array Value} (h:Blk w b t cs) (ht:w.mapTurned w' M):Blk w' b t cs:=by
 refine h.grown ht.grown (fun e=>?_)
 obtain ⟨es,clock,es',clock',hb,_⟩:=ht
 simp only [Option.some.injEq] at e
 subst e
 have h2:w.heap[b]? = some (.cells cs t):=h
 rw [h2] at hb
 cases hb

theorem below_map {B M:Nat} {w0 w w' : World} (h:Below B w0 w) (ht:w.mapTurned w' M) (hM:B≤M):Below B w0 w' := by
 have hg:=ht.grown
 obtain ⟨es,clock,es',clock',hb,rfl⟩:=ht
 have hl:M < w.heap.size:=(Array.getElem?_eq_some_iff.1 hb).1
 refine ⟨hg.os.trans h.os,hg.tape.trans h.tape,hg.output.trans h.output,Nat.le_trans h.size hg.size,fun k hk=>(hg.block k (by omega) (fun e=>?_)).trans (h.block k hk)⟩
 simp only [Option.some.injEq] at e
 omega

theorem own_lo {w:World} {base base' e size n:Nat} {v:Value} {xs:List Value} (h:w.ownsRow base e size v n xs) (hb:base' ≤ base):w.ownsRow base' e size v n xs:=by
 refine ⟨h.1,?_⟩
 rcases h.2 with h2 | ⟨g,cap,cur,hv,hg,hh,r⟩
 ·exact Or.inl h2
 ·exact Or.inr ⟨g,cap,cur,hv,by omega,hh,r⟩

theorem nmX0 (a b c d e f:Int) (w:World):(Instr.index 188 (.agg #[.int .i64 a,.int .i64 b,.int .i64 c,.int .i64 d,.int .i64 e,.int .i64 f]) (.int .i64 0)).run Tryz.prog w=.ok (.agg #[.int .i64 a,.int .i64 b,.int .i64 c]) w:=by kernel_rfl

theorem nmX1 (a b c d e f:Int) (w:World):(Instr.index 188 (.agg #[.int .i64 a,.int .i64 b,.int .i64 c,.int .i64 d,.int .i64 e,.int .i64 f]) (.int .i64 1)).run Tryz.prog w=.ok (.agg #[.int .i64 d,.int .i64 e,.int .i64 f]) w:=by kernel_rfl

theorem wp_scope_jumps2 {P:Program} {a:Act} {w:World} {Q:Exit→Act→World→Prop} {c X:Code} (l:Nat) (J:Act→World→Prop) (μ:Act→World→Nat) (hf:findLabel c l=some (Code.skip.seq X))
  (first:(∀ a w,J a w→X.wp P (Exit.jump l J Q) a w)→c.wp P (Exit.jump l J Q) a w)
  (pass:∀ a w,J a w→X.wp P (Exit.jump l (fun a' w' => J a' w' ∧ μ a' w' < μ a w) Q) a w):(Code.scope c).wp P Q a w:=by
 refine wp_scope_jumps l J μ hf (first fun a w h=>?_) (fun a w h=>wp_seq_k fun K hK=>wp_skip (hK _ _ (pass a w h)))
 refine wp_mono (pass a w h) (fun e a w he=>?_)
 cases e with
 | goto l' => exact ⟨he.1,he.2.1⟩
 | normal=>exact he
 | exit id=>exact he
 | ret=>exact he
 | panic ch=>exact he
 | outgrown=>exact he

theorem first_part {P:Program} {a0:Act} {w0:World} {Q:Exit→Act→World→Prop} {r1 r2 rest:Code} {l:Nat} {J:Act→World→Prop} (hrest:∀ a w,J a w→rest.wp P Q a w) (h:∀ R:Code,(∀ a w,J a w→R.wp P Q a w)→(r1.seq (r2.seq R)).wp P Q a0 w0):(r1.seq (r2.seq ((Code.label l).seq rest))).wp P Q a0 w0:=
 h _ (fun a w hJ=>wp_seq_k fun K hK=>wp_label (hK _ _ (hrest a w hJ)))

/-- What holds at every jump. -/
def OeW (w:World) (ps:List TxnQ) (v v4:Value) (wr:World):Prop:=∃ (k:Nat) (rs qs:List TxnQ),k≤ps.length∧Hid (rs=ps.drop k)∧txnK.At w v rs∧CapOk v∧Hid (qs.map TxnQ.e=onc [] ((ps.take k).map TxnQ.e))∧wr.ownsRow (w.heap.size + 1) 39 4 v4 qs.length (txnK.row qs)∧Hid (∀ q∈qs,q∈ps)∧Cts wr w.heap.size (nms (qs.map TxnQ.e))∧Below w.heap.size w wr

def OeJ (w:World) (ps:List TxnQ) (a' : Act) (w' : World):Prop:=∃ (v v4 u5 u6 u7 u8 u9 u10 u11 u12 u13 u14 u15 u16 u17 u18 u19 u20 u21 u22 u23 u24 u25 u26 u27 u28 u29 u30 u31 u32 u33 u34 u35 u36 u37 u38 u39 u40 u41 u42 u43 u44 u45 u46 u47 u48 u49 u50 u51 u52 u53 u54 u55 u56 u57 u58:Value),a' = { tmps:=#[v,undef,.slice none 0 0,.map (some w.heap.size),v4,u5,u6,u7,u8,u9,u10,u11,u12,u13,u14,u15,u16,u17,u18,u19,u20,u21,u22,u23,u24,u25,u26,u27,u28,u29,u30,u31,u32,u33,u34,u35,u36,u37,u38,u39,u40,u41,u42,u43,u44,u45,u46,u47,u48,u49,u50,u51,u52,u53,u54,u55,u56,u57,u58],defers:=[] }∧OeW w ps v v4 w'

def OeM (a' : Act) (_:World):Nat:=match a'.tmps.getD 0 undef with | .slice _ n _=>n | _=>0

set_option maxHeartbeats 8000000 in
set_option maxRecDepth 1000000 in
theorem onceEach_any (v:Value) (ps:List TxnQ) (w:World) (h:txnK.At w v ps) (hcp:CapOk v) (hl:ps.length≤16) (hW:∀ p∈ps,1≤p.i∧nmW (nmA (TxnQ.e p))∧nmW (nmB (TxnQ.e p))) :
  Calls Tryz.prog 75 #[v] w fun e w' => ∃ (v' : Value) (qs:List TxnQ),e=.returned v' ∧ qs.map TxnQ.e=onc [] (ps.map TxnQ.e)∧qs.length≤16∧w'.ownsRow w.heap.size 39 4 v' qs.length (txnK.row qs)∧(∀ q∈qs,txnK.rd w q)∧Below w.heap.size w w' := by
 obtain ⟨i0,hif,hz0,hz1,hz2⟩:=info_parts infoTxn
 have hmm:=@run_makeMap Tryz.prog
 go_enter Tryz.func75,Tryz.ntmps75
 go_wp2
 refine wp_scope_jumps2 0 (OeJ w ps) OeM rfl ?_ ?_
 ·intro hrest
  obtain ⟨a,cap,rfl⟩:=h.shape
  have hmade:=Cts.made w
  have hbm:Below w.heap.size w (w.alloc (.map #[] 0)):=by go_grown
  have hon:(w.alloc (.map #[] 0)).ownsRow (w.heap.size + 1) 39 4 (.slice none 0 0) ([]:List TxnQ).length (txnK.row []):=World.ownsRow_nil _ _ _ _
  refine first_part hrest fun R hR=>?_
  go_wp2
  refine hR _ _ ?_
  refine ⟨_,_,_,_,_,_,_,_,_,_,_,_,_,_,_,_,_,_,_,_,_,_,_,_,_,_,_,_,_,_,_,_,_,_,_,_,_,_,_,_,_,_,_,_,_,_,_,_,_,_,_,_,_,_,_,_,rfl,0,ps,[],Nat.zero_le _,(rfl:_=_),h,hcp,(rfl:_=_),hon,fun q hq=>by simp at hq,hmade,hbm⟩
 ·clear hmm
  rintro a' w' ⟨v,v4,u5,u6,u7,u8,u9,u10,u11,u12,u13,u14,u15,u16,u17,u18,u19,u20,u21,u22,u23,u24,u25,u26,u27,u28,u29,u30,u31,u32,u33,u34,u35,u36,u37,u38,u39,u40,u41,u42,u43,u44,u45,u46,u47,u48,u49,u50,u51,u52,u53,u54,u55,u56,u57,u58,rfl,k0,rs,qs0,hk0,HRS,hA,hcp,HE0,hO0,HM0,hC0,hb0⟩
  obtain ⟨a,cap,rfl⟩:=hA.shape
  have HLEN:Hid (rs.length=ps.length - k0):=show _=_ by rw [HRS.out,List.length_drop]
  obtain ⟨hcp1,hcp2⟩:rs.length≤cap∧cap≤maxLen:=hcp
  obtain ⟨sa0,sc0,rfl⟩:=own_shape hO0
  go_wp2
  go_loopw [0,4,15] (fun v0 v j wr=>∃ (i:Nat) (qs:List TxnQ),i≤rs.length∧v0=.slice a rs.length cap∧j=.int .i64 i∧Hid (qs.map TxnQ.e=onc [] ((ps.take (k0 + i)).map TxnQ.e))∧wr.ownsRow (w.heap.size + 1) 39 4 v qs.length (txnK.row qs)∧Hid (∀ q∈qs,q∈ps)∧Cts wr w.heap.size (nms (qs.map TxnQ.e))∧Below w.heap.size w wr) (fun _ _ j _=>rs.length - (intOf j).toNat)
  case atStart=>exact ⟨0,qs0,Nat.zero_le _,rfl,rfl,HE0,hO0,HM0,hC0,hb0⟩
  case round=>
   clear HE0 hO0 HM0 hC0
   obtain ⟨i,qs,hi,rfl,rfl,HE,hO,HM,hC,hb⟩:=hrel
   obtain ⟨sa,sc,rfl⟩:=own_shape hO
   by_cases hlt:i < rs.length
   ·have hk:k0 + i < ps.length:=by have:=HLEN.out;omega
    obtain ⟨b,off,rfl,hbs,hc,hrd⟩:=hA.cell (by decide) i hlt
    have hpe:rs[i]=ps[k0 + i]:=by
     obtain rfl:rs=ps.drop k0:=HRS.out
     simp
    rw [hpe] at hc hrd
    obtain ⟨h1,hwA,hwB⟩:=hW _ (List.getElem_mem hk)
    have HY:Hid (onc [] ((ps.take (k0 + i + 1)).map TxnQ.e)=if knw (qs.map TxnQ.e) (TxnQ.e ps[k0 + i]) then qs.map TxnQ.e else qs.map TxnQ.e ++ [TxnQ.e ps[k0 + i]]):=show _=_ by
     rw [HE.out,List.take_succ_eq_append_getElem hk,List.map_append,onc_append]
     rfl
    have hc' : ∀ j x,(txnK.cells ps[k0 + i])[j]? = some x→w.cell? ⟨b,off + i * 4 + j,none⟩=some x:=hc
    have c0:=cellB (hc' 0 (.int .i64 ps[k0 + i].i) rfl) hb
    have c1:=cellB (hc' 1 (.int .i64 ps[k0 + i].s) rfl) hb
    have c2:=cellB (hc' 2 (.int .i64 ps[k0 + i].q) rfl) hb
    have c3:=cellB (hc' 3 ps[k0 + i].va rfl) hb
    rw [Nat.add_zero] at c0
    have hbs' : b < wr.heap.size:=Nat.lt_of_lt_of_le hbs hb.size
    have hmem:ps[k0 + i]∈ps:=List.getElem_mem hk
    clear hc hc' hpe
    generalize ps[k0 + i]=p at *
    obtain ⟨pi,psn,pq,pva,pacts⟩:=p
    have hT:actK.At w pva pacts:=hrd
    obtain ⟨ba,bk,rfl⟩:=hT.shape
    dsimp only at c0 c1 c2 c3 h1
    obtain ⟨rs2,hrs2⟩:∃ rs2,rs2=rs.drop (i + 1):=⟨_,rfl⟩
    have hl2:rs2.length=rs.length - (i + 1):=by rw [hrs2,List.length_drop]
    obtain ⟨ra,rc,hs2,hA2,hcp2'⟩:∃ ra rc,(∀ u:World,(Instr.slice 25 (.slice (some ⟨b,off,none⟩) rs.length cap) (some (.int .i64 ((i:Int) + 1))) none none).run Tryz.prog u=.ok (.slice ra rs2.length rc) u)∧txnK.At w (.slice ra rs2.length rc) rs2∧CapOk (.slice ra rs2.length rc):=by
     have hd:=hA.dropS (i + 1) (by omega) hcp1 (cap - (i + 1))
     rw [← hrs2] at hd
     refine ⟨_,_,fun u=>?_,hd,⟨by omega,by omega⟩⟩
     rw [run_slice_l u 25 (some ⟨b,off,none⟩) rs.length cap (by kernel_rfl) .i64 ((i:Int) + 1) (by omega) (by omega),hl2]
     rfl
    have HRS2:Hid (rs2=ps.drop (k0 + (i + 1))):=show _=_ by rw [hrs2,HRS.out,List.drop_drop]
    have HLT2:Hid (rs2.length < rs.length):=show _ < _ by omega
    have HJ:Hid (knw (qs.map TxnQ.e) (TxnQ.e (⟨pi,psn,pq,.slice ba pacts.length bk,pacts⟩:TxnQ))=true→qs.map TxnQ.e=onc [] ((ps.take (k0 + (i + 1))).map TxnQ.e)):=fun hk9=>by
     have h9:=HY.out
     rw [hk9] at h9
     rw [← Nat.add_assoc,h9]
     rfl
    clear hrs2 hl2
    obtain ⟨BX,hBX⟩:∃ BX,BX=wr.heap.size:=⟨_,rfl⟩
    have HLQ:Hid ((nms (qs.map TxnQ.e)).length≤32):=show _≤_ by
     rw [nms_len,HE.out]
     have:=onc_len ((ps.take (k0 + i)).map TxnQ.e) []
     simp only [List.length_map,List.length_take,List.length_nil] at this
     omega
    have hbY:Below wr.heap.size wr ((wr.alloc (.cells #[.int .i64 pi,.int .i64 psn,.int .i64 pq,.slice ba pacts.length bk] 39)).alloc (.cells #[.int .i64 pi,.int .i64 0,.int .i64 0,.int .i64 0,.int .i64 psn,.int .i64 pq] 188)):=by go_grown
    have X1:Blk ((wr.alloc (.cells #[.int .i64 pi,.int .i64 psn,.int .i64 pq,.slice ba pacts.length bk] 39)).alloc (.cells #[.int .i64 pi,.int .i64 0,.int .i64 0,.int .i64 0,.int .i64 psn,.int .i64 pq] 188)) wr.heap.size 39 #[.int .i64 pi,.int .i64 psn,.int .i64 pq,.slice ba pacts.length bk]:=(Blk.new wr 39 #[.int .i64 pi,.int .i64 psn,.int .i64 pq,.slice ba pacts.length bk]).below (by go_grown)
    have X2:Blk ((wr.alloc (.cells #[.int .i64 pi,.int .i64 psn,.int .i64 pq,.slice ba pacts.length bk] 39)).alloc (.cells #[.int .i64 pi,.int .i64 0,.int .i64 0,.int .i64 0,.int .i64 psn,.int .i64 pq] 188)) (wr.heap.size + 1) 188 #[.int .i64 pi,.int .i64 0,.int .i64 0,.int .i64 0,.int .i64 psn,.int .i64 pq]:=by
     have:=Blk.new (wr.alloc (.cells #[.int .i64 pi,.int .i64 psn,.int .i64 pq,.slice ba pacts.length bk] 39)) 188 #[.int .i64 pi,.int .i64 0,.int .i64 0,.int .i64 0,.int .i64 psn,.int .i64 pq]
     simpa using this
    have hOY:=own_below hO hbY
    have hCY:Cts ((wr.alloc (.cells #[.int .i64 pi,.int .i64 psn,.int .i64 pq,.slice ba pacts.length bk] 39)).alloc (.cells #[.int .i64 pi,.int .i64 0,.int .i64 0,.int .i64 0,.int .i64 psn,.int .i64 pq] 188)) w.heap.size (nms (qs.map TxnQ.e)):=hC.below hbY
    have hbW:=hb.trans (hbY.mono hb.size)
    go_wp2
    clear hbY c0 c1 c2 c3 hb hO hC
    rw [← hBX] at X1
    generalize (wr.alloc (.cells #[.int .i64 pi,.int .i64 psn,.int .i64 pq,.slice ba pacts.length bk] 39)).alloc (.cells #[.int .i64 pi,.int .i64 0,.int .i64 0,.int .i64 0,.int .i64 psn,.int .i64 pq] 188)=Y at *
    go_loopw [0,30] (fun v0 j wy=>∃ m:Nat,m≤2∧v0=.slice (some ⟨b,off,none⟩) rs.length cap∧j=.int .i64 m∧Hid (1≤m→(nms (qs.map TxnQ.e)).count (pi,0,0)=0)∧Hid (2≤m→(nms (qs.map TxnQ.e)).count (0,psn,pq)=0)∧Below Y.heap.size Y wy) (fun _ j _=>2 - (intOf j).toNat)
    case atStart=>exact ⟨0,Nat.zero_le _,rfl,rfl,fun h=>by omega,fun h=>by omega,Below.refl _ _⟩
    case round=>
     obtain ⟨m,hm,rfl,rfl,HA,HB,hby⟩:=hrel
     have hCy:=hCY.below hby
     have hlA:=fun o=>(hCy.kept (row:=none) (World.grownBy_alloc wr o none) (by simp)).look hwA
     have hlB:=fun o=>(hCy.kept (row:=none) (World.grownBy_alloc wr o none) (by simp)).look hwB
     simp only [nmV,nmA,nmB,TxnQ.e] at hlA hlB
     have hi0:=nmX0 pi 0 0 0 psn pq
     have hi1:=nmX1 pi 0 0 0 psn pq
     replace X2:=X2.below hby
     obtain rfl | rfl | rfl:m=0∨m=1∨m=2:=by omega
     ·by_cases hp:0 < (nms (qs.map TxnQ.e)).count (pi,0,0)
      ·have HK9:Hid (knw (qs.map TxnQ.e) (TxnQ.e (⟨pi,psn,pq,.slice ba pacts.length bk,pacts⟩:TxnQ))=true):=(knw_nms (acc:=qs.map TxnQ.e) (t:=TxnQ.e (⟨pi,psn,pq,.slice ba pacts.length bk,pacts⟩:TxnQ)) (fun x hx=>by obtain ⟨q,hq,rfl⟩:=List.mem_map.1 hx;exact (hW q (HM.out q hq)).1) h1).2 (Or.inl hp)
       go_wp2
       refine wp_goto ?_
       refine ⟨rfl,⟨_,_,_,_,_,_,_,_,_,_,_,_,_,_,_,_,_,_,_,_,_,_,_,_,_,_,_,_,_,_,_,_,_,_,_,_,_,_,_,_,_,_,_,_,_,_,_,_,_,_,_,_,_,_,_,_,rfl,k0 + (i + 1),rs2,qs,by omega,HRS2,hA2,hcp2',HJ.out HK9.out,own_below (own_below hOY hby) (by go_grown),HM,(hCY.below hby).below (by go_grown),hbW.trans ((hby.alloc hby.size _).mono hbW.size)⟩,?_⟩
       exact HLT2.out
      ·have hz:(nms (qs.map TxnQ.e)).count (pi,0,0)=0:=by omega
       rw [hz] at hlA
       go_wp2
       go_roundw
       case rel=>exact ⟨1,by omega,rfl,by go_num,fun _=>hz,fun h=>by omega,hby.alloc hby.size _⟩
       case measure=>simp [intOf]
     ·have hA0:=HA.out (by omega)
      by_cases hp:0 < (nms (qs.map TxnQ.e)).count (0,psn,pq)
      ·have HK9:Hid (knw (qs.map TxnQ.e) (TxnQ.e (⟨pi,psn,pq,.slice ba pacts.length bk,pacts⟩:TxnQ))=true):=(knw_nms (acc:=qs.map TxnQ.e) (t:=TxnQ.e (⟨pi,psn,pq,.slice ba pacts.length bk,pacts⟩:TxnQ)) (fun x hx=>by obtain ⟨q,hq,rfl⟩:=List.mem_map.1 hx;exact (hW q (HM.out q hq)).1) h1).2 (Or.inr hp)
       go_wp2
       refine wp_goto ?_
       refine ⟨rfl,⟨_,_,_,_,_,_,_,_,_,_,_,_,_,_,_,_,_,_,_,_,_,_,_,_,_,_,_,_,_,_,_,_,_,_,_,_,_,_,_,_,_,_,_,_,_,_,_,_,_,_,_,_,_,_,_,_,rfl,k0 + (i + 1),rs2,qs,by omega,HRS2,hA2,hcp2',HJ.out HK9.out,own_below (own_below hOY hby) (by go_grown),HM,(hCY.below hby).below (by go_grown),hbW.trans ((hby.alloc hby.size _).mono hbW.size)⟩,?_⟩
       exact HLT2.out
      ·have hz:(nms (qs.map TxnQ.e)).count (0,psn,pq)=0:=by omega
       rw [hz] at hlB
       go_wp2
       go_roundw
       case rel=>exact ⟨2,by omega,rfl,by go_num,fun _=>hA0,fun _=>hz,hby.alloc hby.size _⟩
       case measure=>simp [intOf]
     ·have hA0:=HA.out (by omega)
      have hB0:=HB.out (by omega)
      have x0:=X2.cell 0 _ rfl
      have x1:=X2.cell 1 _ rfl
      have x2:=X2.cell 2 _ rfl
      have x3:=X2.cell 3 _ rfl
      have x4:=X2.cell 4 _ rfl
      have x5:=X2.cell 5 _ rfl
      replace X1:=X1.below hby
      have hOy:=own_below hOY hby
      replace hbW:=hbW.trans (hby.mono hbW.size)
      go_wp2
      clear x0 x1 x2 x3 x4 x5 X2 hlA hlB HA HB hby hCY hOY
      have hlq:(nms (qs.map TxnQ.e)).length≤32:=HLQ.out
      have hkn:knw (qs.map TxnQ.e) (TxnQ.e (⟨pi,psn,pq,.slice ba pacts.length bk,pacts⟩:TxnQ))=false:=by
       cases hk9:knw (qs.map TxnQ.e) (TxnQ.e (⟨pi,psn,pq,.slice ba pacts.length bk,pacts⟩:TxnQ)) with
       | false=>rfl
       | true=>
        have h9:=(knw_nms (acc:=qs.map TxnQ.e) (t:=TxnQ.e (⟨pi,psn,pq,.slice ba pacts.length bk,pacts⟩:TxnQ)) (fun x hx=>by obtain ⟨q,hq,rfl⟩:=List.mem_map.1 hx;exact (hW q (HM.out q hq)).1) h1).1 hk9
        have hA9:(nms (qs.map TxnQ.e)).count (nmA (TxnQ.e (⟨pi,psn,pq,.slice ba pacts.length bk,pacts⟩:TxnQ)))=0:=hA0
        have hB9:(nms (qs.map TxnQ.e)).count (nmB (TxnQ.e (⟨pi,psn,pq,.slice ba pacts.length bk,pacts⟩:TxnQ)))=0:=hB0
        omega
      have HE2:Hid ((qs ++ [(⟨pi,psn,pq,.slice ba pacts.length bk,pacts⟩:TxnQ)]).map TxnQ.e=onc [] ((ps.take (k0 + (i + 1))).map TxnQ.e)):=show _=_ by
       have h9:=HY.out
       rw [hkn] at h9
       rw [← Nat.add_assoc,h9]
       simp
      have HM2:Hid (∀ q∈qs ++ [(⟨pi,psn,pq,.slice ba pacts.length bk,pacts⟩:TxnQ)],q∈ps):=fun q hq=>by
       rcases List.mem_append.1 hq with hq | hq
       ·exact HM.out q hq
       ·rw [List.mem_singleton.1 hq];exact hmem
      have HL16:Hid (qs.length≤16):=show _≤_ by
       have h9:=hlq
       rw [nms_len] at h9
       simp at h9
       omega
      have HNS:Hid (nms ((qs ++ [(⟨pi,psn,pq,.slice ba pacts.length bk,pacts⟩:TxnQ)]).map TxnQ.e)=nms (qs.map TxnQ.e) ++ [(pi,0,0),(0,psn,pq)]):=show _=_ by
       rw [List.map_append]
       exact (nms_snoc _ _).trans (by simp [nmA,nmB,TxnQ.e])
      clear hkn HY
      generalize hns:nms (qs.map TxnQ.e)=ns at *
      go_loopw [43] (fun j wz=>∃ m:Nat,m≤2∧j=.int .i64 m∧Cts wz w.heap.size (ns ++ [(pi,0,0),(0,psn,pq)].take m)∧wz.ownsRow (w.heap.size + 1) 39 4 (.slice sa qs.length sc) qs.length (txnK.row qs)∧Blk wz BX 39 #[.int .i64 pi,.int .i64 psn,.int .i64 pq,.slice ba pacts.length bk]∧Below w.heap.size w wz) (fun j _=>2 - (intOf j).toNat)
      case atStart=>exact ⟨0,Nat.zero_le _,rfl,by simpa using hCy,hOy,X1,hbW⟩
      case round=>
       clear hCy hOy X1 hbW
       obtain ⟨m,hm,rfl,hCz,hOz,X1,hbW⟩:=hrel
       obtain rfl | rfl | rfl:m=0∨m=1∨m=2:=by omega
       ·simp only [List.take_zero,List.append_nil] at hCz
        have hCU:Cts (wr.alloc (.cells #[.int .i64 pi,.int .i64 0,.int .i64 0] 187)).drew w.heap.size ns:=(hCz.kept (row:=none) (World.grownBy_alloc wr (.cells #[.int .i64 pi,.int .i64 0,.int .i64 0] 187) none) (by simp)).drew
        have e0:=hCU.look hwA
        obtain ⟨v0,st,w1,w3,e1,e2,e3,t1,t3,hC4⟩:=hCU.inc hwA (by omega)
        have z1:((0:Nat):Int) + 1=1:=rfl
        simp only [nmV,nmA,TxnQ.e,hA0,z1] at e0 e1 e2 e3
        have HO3:Hid (w3.ownsRow (w.heap.size + 1) 39 4 (.slice sa qs.length sc) qs.length (txnK.row qs)):=own_map (own_drew (own_below hOz (by go_grown))) t3
        have HX3:Hid (Blk w3 BX 39 #[.int .i64 pi,.int .i64 psn,.int .i64 pq,.slice ba pacts.length bk]):=blk_map (blk_drew (X1.below (by go_grown))) t3
        have HB3:Hid (Below w.heap.size w w3):=below_map (below_drew (hbW.alloc hbW.size _)) t3 (Nat.le_refl _)
        clear t1 t3
        go_wp2
        go_region
        go_wp2
        go_roundw
        case rel=>exact ⟨1,by omega,by go_num,hC4,HO3.out,HX3.out,HB3.out⟩
        case measure=>simp [intOf]
       ·have hne:(ns ++ [(pi,0,0)]).count (0,psn,pq)=0:=by
         rw [List.count_append,hB0]
         have:[(pi,(0:Int),(0:Int))].count (0,psn,pq)=0:=List.count_eq_zero.2 (by simp;omega)
         omega
        have hCz' : Cts wr w.heap.size (ns ++ [(pi,0,0)]):=hCz
        have hCU:Cts (wr.alloc (.cells #[.int .i64 0,.int .i64 psn,.int .i64 pq] 187)).drew w.heap.size (ns ++ [(pi,0,0)]):=(hCz'.kept (row:=none) (World.grownBy_alloc wr (.cells #[.int .i64 0,.int .i64 psn,.int .i64 pq] 187) none) (by simp)).drew
        have e0:=hCU.look hwB
        obtain ⟨v0,st,w1,w3,e1,e2,e3,t1,t3,hC4⟩:=hCU.inc hwB (by simp;omega)
        have z1:((0:Nat):Int) + 1=1:=rfl
        have hC5:Cts w3 w.heap.size (ns ++ [(pi,0,0),(0,psn,pq)]):=by
         have e9:ns ++ [(pi,0,0)] ++ [(0,psn,pq)]=ns ++ [(pi,0,0),(0,psn,pq)]:=by simp
         rw [← e9]
         exact hC4
        simp only [nmV,nmB,TxnQ.e,hne,z1] at e0 e1 e2 e3
        have HO3:Hid (w3.ownsRow (w.heap.size + 1) 39 4 (.slice sa qs.length sc) qs.length (txnK.row qs)):=own_map (own_drew (own_below hOz (by go_grown))) t3
        have HX3:Hid (Blk w3 BX 39 #[.int .i64 pi,.int .i64 psn,.int .i64 pq,.slice ba pacts.length bk]):=blk_map (blk_drew (X1.below (by go_grown))) t3
        have HB3:Hid (Below w.heap.size w w3):=below_map (below_drew (hbW.alloc hbW.size _)) t3 (Nat.le_refl _)
        clear t1 t3
        go_wp2
        go_region
        go_wp2
        go_roundw
        case rel=>exact ⟨2,by omega,by go_num,hC5,HO3.out,HX3.out,HB3.out⟩
        case measure=>simp [intOf]
       ·rw [hBX] at X1
        have y0:=X1.cell 0 _ rfl
        have y1:=X1.cell 1 _ rfl
        have y2:=X1.cell 2 _ rfl
        have y3:=X1.cell 3 _ rfl
        have hbA3:Below wr.heap.size wr (wr.alloc (.cells #[.int .i64 pi,.int .i64 psn,.int .i64 pq,.slice ba pacts.length bk] 39)):=by go_grown
        have hOA:=own_below hOz hbA3
        have hCA:Cts (wr.alloc (.cells #[.int .i64 pi,.int .i64 psn,.int .i64 pq,.slice ba pacts.length bk] 39)) w.heap.size (ns ++ [(pi,0,0),(0,psn,pq)]):=Cts.below (w:=wr) hCz hbA3
        have hbB:=hbW.trans (hbA3.mono hbW.size)
        have HQL:Hid (qs.length≤16):=HL16
        clear hOz hCz hbW X1 hbA3
        go_wp2_with (at_builtin;refine wpList_append_own_at _ rfl _ _ 25 rfl (w.heap.size + 1) 39 i0 (.agg #[.int .i64 0,.int .i64 0,.int .i64 0,.slice none 0 0]) 4 48 Tryz.underlying25 hif hz0 hz1 hz2 rfl (by decide) _ qs.length (txnK.row qs) rfl hOA ⟨wr.heap.size,0,none⟩ 1 1 [.int .i64 pi,.int .i64 psn,.int .i64 pq,.slice ba pacts.length bk] rfl rfl ?c1 ?c2 ?c3 ?c4 ?c5 ?_)
        all_goals try (case c1=>intro j u hj;match j,hj with | 0,hj=>simp at hj;subst hj;simp [Addr.add] | 1,hj=>simp at hj;subst hj;simp [Addr.add] | 2,hj=>simp at hj;subst hj;simp [Addr.add] | 3,hj=>simp at hj;subst hj;simp [Addr.add])
        all_goals try (case c2=>intro u hu;simp at hu;rcases hu with rfl | rfl | rfl | rfl <;> rfl)
        all_goals try (case c3=>have:=HQL.out;unfold maxLen;omega)
        all_goals try (case c4=>have:=HQL.out;omega)
        all_goals try (case c5=>have:=hCA.lt;omega)
        intro v' w5 hown hgrow hnil hat
        have hrow:txnK.row (qs ++ [(⟨pi,psn,pq,.slice ba pacts.length bk,pacts⟩:TxnQ)])=txnK.row qs ++ [.int .i64 pi,.int .i64 psn,.int .i64 pq,.slice ba pacts.length bk]:=by simp [Kind.row];rfl
        have hown5:w5.ownsRow (w.heap.size + 1) 39 4 v' (qs ++ [(⟨pi,psn,pq,.slice ba pacts.length bk,pacts⟩:TxnQ)]).length (txnK.row (qs ++ [(⟨pi,psn,pq,.slice ba pacts.length bk,pacts⟩:TxnQ)])):=by rw [hrow,List.length_append];exact hown
        have hb5:Below w.heap.size w w5:=hbB.grown hgrow hbB.size (fun j hj=>by have:=(hOA.lt j hj).1;omega)
        have hC5:Cts w5 w.heap.size (nms ((qs ++ [(⟨pi,psn,pq,.slice ba pacts.length bk,pacts⟩:TxnQ)]).map TxnQ.e)):=by
         rw [HNS.out]
         exact hCA.kept hgrow (fun e=>by have:=(hOA.lt _ e.symm).1;omega)
        clear hown hgrow hnil hat hrow hOA hCA hbB
        go_wp2
        go_roundw
        case rel=>exact ⟨i + 1,qs ++ [(⟨pi,psn,pq,.slice ba pacts.length bk,pacts⟩:TxnQ)],by omega,rfl,by go_num,HE2,hown5,HM2,hC5,hb5⟩
        case measure=>simp [intOf];omega
   ·have hil:i=rs.length:=by omega
    subst hil
    have hE:=HE.out
    rw [List.take_of_length_le (by have:=HLEN.out;omega)] at hE
    have hL:qs.length≤16:=by
     have e9:qs.length=(qs.map TxnQ.e).length:=by simp
     have:=onc_len (ps.map TxnQ.e) []
     rw [e9,hE]
     simp only [List.length_map,List.length_nil] at this
     omega
    have hR:∀ q∈qs,txnK.rd w q:=fun q hq=>by
     obtain ⟨a9,c9,e9,hL9,hr9⟩:=h
     exact hr9 q (HM.out q hq)
    have hO9:=own_lo hO (Nat.le_succ w.heap.size)
    go_wp2
    first | go_ret | (simp only [Exit.jump];go_ret)
    first | exact ⟨_,qs,rfl,hE,hL,hO9,hR,hb⟩ | exact ⟨_,rfl,qs,hE,hL,hO9,hR,hb⟩

end Go.Proofs.YtpmkhnakgeillaaGreatDoor
namespace Go.Proofs.YtpmkhnakgeillaaGreatDoor
open Go.RowKit
open Go.BigFrame
set_option maxRecDepth 100000
theorem row_cap {w:World} {base e size n:Nat} {v:Value} {xs:List Value} (h:w.ownsRow base e size v n xs):CapOk v:=by
 rcases h.2 with ⟨rfl,_⟩ | ⟨g,c,cur,rfl,_,_,h1,h2,_⟩
 ·exact ⟨Nat.le_refl _,by decide⟩
 ·exact ⟨h1,h2⟩

theorem bat_F {bs:List TxnD} (h:batF bs=0):∀ t∈bs,t.F=0:=by
 unfold batF at h
 split at h
 ·exact absurd h (by decide)
 ·split at h
  ·rename_i h1 h2
   exact allF_mem h2
  ·rename_i h1 h2
   exact absurd h h2

theorem ins_F {x:InstE} (h:insF x=0):∀ t∈x.batch,t.F=0:=by
 obtain ⟨h0,_⟩:=ins_zero h
 obtain ⟨_,_,_,hb0,hb1⟩:=shp_zero h0
 cases hh:x.has with
 | false=>
  rw [hb0 hh]
  intro t ht
  simp at ht
 | true=>exact bat_F (hb1 hh)

theorem tak_F {ds:List InstE} (h:∀ x∈ds,insF x=0):∀ t∈takF ds,t.F=0:=by
 intro t ht
 unfold takF at ht
 obtain ⟨x,hx,ht⟩:=List.mem_flatMap.1 ht
 split at ht
 ·exact ins_F (h x hx) t ht
 ·simp at ht

theorem wf_small (n:Int) (h1:-1000≤n) (h2:n≤1000):(Lit.int .i64 n).wf=true:=by
 have e1:IntKind.i64.min=-9223372036854775808:=by decide
 have e2:IntKind.i64.max=9223372036854775807:=by decide
 show (decide (IntKind.i64.min≤n) && decide (n≤IntKind.i64.max))=true
 rw [e1,e2,Bool.and_eq_true,decide_eq_true_eq,decide_eq_true_eq]
 omega

theorem nm_ok {t:TxnD} (h:t.F=0):1≤t.id∧nmW (nmA t)∧nmW (nmB t):=by
 obtain ⟨⟨h1,h2⟩,⟨h3,h4⟩,⟨h5,h6⟩,_⟩:=txnF_zero h
 exact ⟨h1,⟨wf_small t.id (by omega) (by omega),wf_small 0 (by decide) (by decide),wf_small 0 (by decide) (by decide)⟩,⟨wf_small 0 (by decide) (by decide),wf_small t.session (by omega) (by omega),wf_small t.seq (by omega) (by omega)⟩⟩

theorem few_n7 {qs:List TxnQ} (h:∀ t∈qs.map TxnQ.e,t.F=0):nmL TxnQ.n qs≤4 * qs.length:=by
 induction qs with
 | nil=>simp [nmL]
 | cons q r ih=>
  have h1:(TxnQ.e q).F=0:=h _ (by simp)
  have h2:=(txnF_zero h1).2.2.2.1.2
  have h3:q.acts.length≤4:=h2
  have:=ih (fun t ht=>h t (by simp only [List.map_cons,List.mem_cons];exact Or.inr ht))
  simp only [nmL,List.map_cons,List.sum_cons,List.length_cons,TxnQ.n] at this ⊢
  omega

theorem tak_len {ds:List InstE} (h:∀ x∈ds,insF x=0):(takF ds).length≤4 * ds.length:=by
 unfold takF
 induction ds with
 | nil=>simp
 | cons x r ih=>
  have h1:=h x (by simp)
  have:=ih (fun y hy=>h y (List.mem_cons_of_mem _ hy))
  simp only [List.flatMap_cons,List.length_append,List.length_cons]
  have h2:x.batch.length≤4:=by
   obtain ⟨h0,_⟩:=ins_zero h1
   obtain ⟨_,_,_,hb0,hb1⟩:=shp_zero h0
   cases hh:x.has with
   | false=>rw [hb0 hh];simp
   | true=>
    have h3:=hb1 hh
    unfold batF at h3
    split at h3
    ·exact absurd h3 (by decide)
    ·omega
  split
  ·omega
  ·simp only [List.length_nil];omega

theorem sz_txr:(Tryz.prog.info? 50).map (·.size)=some 2:=by kernel_rfl

theorem def_F {ds:List InstE} (h:∀ x∈ds,insF x=0) (m:Nat):∀ t∈defL ds m,t.F=0:=by
 intro t ht
 rcases onc_sub _ _ t ht with ht | ht
 ·simp at ht
 ·exact tak_F (fun x hx=>h x (List.mem_of_mem_take hx)) t ht

set_option maxRecDepth 100000 in
set_option maxHeartbeats 8000000 in
theorem implDefiniteOf_any (v:Value) (ps:List InstQ) (n:Int) (w:World) (hG:Rul w) (h:instK.At w v ps) (hcp:CapOk v) (hl:(ps.length + nmL InstQ.n ps)≤1048576) :
  Calls Tryz.prog 33 #[v,.int .i64 n] w fun e w' => ∃ (v' : Value) (qs:List TxnQ),e=.returned (.agg #[.int .i64 (dfC (ps.map InstQ.e) n),v'])∧qs.map TxnQ.e=dfT (ps.map InstQ.e) n∧txnK.Own w' v' qs∧(txnK.fp v' qs).Nodup∧(∀ k∈txnK.fp v' qs,w.heap.size≤k)∧Below w.heap.size w w' := by
 have hB:Below w.heap.size w (w.alloc (.cells #[.int .i64 0,.slice none 0 0] 50)):=by go_grown
 have Rb:=Blk.new w 50 #[.int .i64 0,.slice none 0 0]
 have hdi:=implDecidedIn_any v ps _ (hG.below hB) (h.below hB) hl
 have HO:Hid (ordF (ps.map InstQ.e)=0→ps.length≤4∧∀ q∈ps,insF (InstQ.e q)=0):=fun h0=>by
  have:=((ord_iff _).1 h0).1
  rw [List.length_map] at this
  exact ⟨this.2,fun q hq=>ord_mem h0 _ (List.mem_map.2 ⟨q,hq,rfl⟩)⟩
 have HV:Hid (ordF (ps.map InstQ.e)=0→diV (ps.map InstQ.e)=(decN (ps.map InstQ.e):Int)):=fun h0=>if_pos h0
 have hw:=df_ways (ps.map InstQ.e) n
 have HWW:Hid _:=hw
 clear hw
 have hdl:decN (ps.map InstQ.e)≤ps.length:=by simpa using decN_le (ps.map InstQ.e)
 obtain ⟨a,cap,rfl⟩:=h.shape
 obtain ⟨hcp1,hcp2⟩:ps.length≤cap∧cap≤maxLen:=hcp
 generalize dfC (ps.map InstQ.e) n=D at *
 generalize dfT (ps.map InstQ.e) n=O at *
 generalize ordF (ps.map InstQ.e)=C at *
 generalize diV (ps.map InstQ.e)=V at *
 generalize decN (ps.map InstQ.e)=M at *
 go_enter Tryz.func33,Tryz.ntmps33
 go_wp2_with fail
 refine hdi.mono ?_
 rintro e w1 ⟨rfl,hb1⟩
 replace hB:=hB.trans (hb1.mono hB.size)
 replace Rb:=Rb.below hb1
 clear hdi hb1
 have hbA:Below w1.heap.size w1 (w1.alloc (.cells #[.int .i64 C,.int .i64 V] 53)):=by go_grown
 have Cb:=Blk.new w1 53 #[.int .i64 C,.int .i64 V]
 replace hB:=hB.trans (hbA.mono hB.size)
 have hr1:w.heap.size < w1.heap.size:=Rb.lt
 replace Rb:=Rb.below hbA
 clear hbA
 by_cases hC:C=0
 ·have hv:=HV.out hC
  obtain ⟨h4,hin⟩:=HO.out hC
  have hin' : ∀ p∈ps,insF (InstQ.e p)=0:=hin
  subst hC
  subst hv
  clear HV HO
  have c1:=Cb.cell 1 _ rfl
  have c0:=Cb.cell 0 _ rfl
  have hiw:=fun w=>isWithin_any n 0 (M:Int) w
  go_wp2_with fail
  clear c0 c1
  generalize w1.alloc (.cells #[.int .i64 0,.int .i64 M] 53)=X at *
  refine (hiw X).mono ?_
  rintro e w2 ⟨rfl,hw2⟩
  replace hw2:=hw2.symm
  subst hw2
  by_cases hin0:0≤n∧n≤(M:Int)
  ·have hiW:inW n 0 (M:Int)=true:=by unfold inW;rw [decide_eq_true hin0.1,decide_eq_true hin0.2];rfl
   obtain ⟨m,rfl⟩:∃ m:Nat,n=(m:Int):=⟨n.toNat,by omega⟩
   have hm:m≤ps.length:=by omega
   have E0:Hid (D=0∧O=defL (ps.map InstQ.e) m):=by
    rcases HWW.out with ⟨h0,_⟩ | ⟨_,h0,_⟩ | ⟨_,_,h0,h1⟩
    ·exact absurd rfl h0
    ·exact absurd hin0 h0
    ·exact ⟨h0,by simpa using h1⟩
   clear HWW
   rw [hiW]
   have hT:=h.takeK m hm
   have htk:=takenIn_any (.slice a m cap) (ps.take m) X (hG.below hB) (hT.below hB) (fun p hp=>hin p (List.mem_of_mem_take hp)) (by rw [List.length_take];omega) (by have:=nmL_le InstQ.n ps m;rw [List.length_take];omega)
   have hm0:(0:Int)≤(m:Int):=by omega
   have hmc:(m:Int)≤(cap:Int):=by omega
   have hmc' : m≤cap:=by omega
   have HTF:Hid (∀ t∈takF ((ps.take m).map InstQ.e),t.F=0):=tak_F (fun x hx=>by
    obtain ⟨p,hp,rfl⟩:=List.mem_map.1 hx
    exact hin p (List.mem_of_mem_take hp))
   have HDL:Hid (onc [] (takF ((ps.take m).map InstQ.e))=defL (ps.map InstQ.e) m):=show _=_ by unfold defL;rw [List.map_take]
   clear hiw hin hin' hT
   have hXr:w.heap.size < X.heap.size:=Rb.lt
   go_wp2_with fail
   refine htk.mono ?_
   rintro e w3 ⟨v3,q3,rfl,e3,l3,o3,rd3,hb3⟩
   replace Rb:=Rb.below hb3
   have hB3:=hB.trans (hb3.mono hB.size)
   have F3:∀ t∈q3.map TxnQ.e,t.F=0:=fun t ht=>HTF.out t (by rw [← e3];exact ht)
   have at3:txnK.At w3 v3 q3:=Kind.at_of_row o3 (fun q hq=>txnK.rd_below (rd3 q hq) hb3)
   have hoe:=onceEach_any v3 q3 w3 at3 (row_cap o3) l3 (fun p hp=>nm_ok (t:=TxnQ.e p) (F3 _ (List.mem_map.2 ⟨p,hp,rfl⟩)))
   rw [e3,HDL.out] at hoe
   obtain ⟨a3,c3,rfl⟩:=own_shape o3
   clear htk o3 rd3 at3 HTF HDL hb3 hB
   go_wp2_with fail
   refine hoe.mono ?_
   rintro e w4 ⟨v4,q4,rfl,e4,l4,o4,rd4,hb4⟩
   replace Rb:=Rb.below hb4
   have hB4:=hB3.trans (hb4.mono hB3.size)
   have F4:∀ t∈q4.map TxnQ.e,t.F=0:=fun t ht=>by
    rw [e4] at ht
    rcases onc_sub _ _ t ht with ht | ht
    ·simp at ht
    ·exact F3 t (by rw [e3,List.map_take];exact ht)
   have at4:txnK.At w4 v4 q4:=Kind.at_of_row o4 (fun q hq=>txnK.rd_below (rd4 q hq) hb4)
   have hcl:=cloneTxns_any v4 q4 w4 at4 (fun p hp=>by
    have:=(txnF_zero (F4 _ (List.mem_map.2 ⟨p,hp,rfl⟩))).2.2.2.1.1
    have h9:1≤p.acts.length:=this
    omega) (by have:=few_n7 F4;omega)
   rw [e4] at hcl
   obtain ⟨a4,c4,rfl⟩:=own_shape o4
   have hX4:w.heap.size < w4.heap.size:=Rb.lt
   clear hoe o4 rd4 at4 hb4 hB3 F3 F4 e3 e4
   go_wp2_with fail
   refine hcl.mono ?_
   rintro e w5 ⟨v5,q5,rfl,e5,o5,n5,g5,hb5⟩
   replace Rb:=Rb.below hb5
   have hB5:=hB4.trans (hb5.mono hB4.size)
   obtain ⟨a5,c5,rfl⟩:=o5.shape
   have E5:Hid (q5.map TxnQ.e=O):=show _=_ by rw [E0.out.2];exact e5
   have ED:Hid (D=0):=E0.out.1
   clear hcl hb5 hB4 e5 E0
   have KF:=below_row hB5 (Nat.le_refl w.heap.size) #[.int .i64 0,.slice a5 q5.length c5]
   have O5:Hid _:=o5.out (out_row _ w.heap.size #[.int .i64 0,.slice a5 q5.length c5]) (fun k hk=>by have:=g5 k hk;simp only [List.mem_singleton];omega)
   have g6:∀ k∈txnK.fp (.slice a5 q5.length c5) q5,w.heap.size≤k:=fun k hk=>by have:=g5 k hk;omega
   have Rr:=Rb.row #[.int .i64 0,.slice a5 q5.length c5]
   go_wp2_with (first | (refine st_row (by kernel_rfl) 50 _ _ rfl _ #[.int .i64 0,.slice a5 q5.length c5] rfl rfl 50 _ Rb sz_txr rfl (by simp [Value.oneCell']) ?_))
   have y0:=Rr.cell 0 _ rfl
   have y1:=Rr.cell 1 _ rfl
   refine bodyPost_ret (v:=.agg #[.int .i64 0,.slice a5 q5.length c5]) (by simp [results,Tryz.results33,go_sem,y0,y1]) rfl ?_
   exact ⟨_,q5,by rw [ED.out],E5.out,O5.out,n5,g6,KF⟩
  ·have hiW:inW n 0 (M:Int)=false:=by
    unfold inW
    rw [Bool.and_eq_false_iff,decide_eq_false_iff_not,decide_eq_false_iff_not]
    omega
   have E0:Hid (D=3∧O=[]):=by
    rcases HWW.out with ⟨h0,_⟩ | ⟨_,_,h0,h1⟩ | ⟨_,h0,_⟩
    ·exact absurd rfl h0
    ·exact ⟨h0,h1⟩
    ·exact absurd h0 hin0
   clear HWW
   rw [hiW]
   obtain ⟨hn1,hn2⟩:=Kind.own_nil (K:=txnK) (X.setRow w.heap.size #[.int .i64 3,.slice none 0 0])
   have KF:=below_row hB (Nat.le_refl w.heap.size) #[.int .i64 3,.slice none 0 0]
   have Rr:=Rb.row #[.int .i64 3,.slice none 0 0]
   go_wp2_with (first | (refine st_row (by kernel_rfl) 50 _ _ rfl _ #[.int .i64 3,.slice none 0 0] rfl rfl 50 _ Rb sz_txr rfl (by simp [Value.oneCell']) ?_))
   have y0:=Rr.cell 0 _ rfl
   have y1:=Rr.cell 1 _ rfl
   refine bodyPost_ret (v:=.agg #[.int .i64 3,.slice none 0 0]) (by simp [results,Tryz.results33,go_sem,y0,y1]) rfl ?_
   exact ⟨_,[],by rw [E0.out.1],by rw [E0.out.2];rfl,hn1,by rw [hn2];simp,by rw [hn2];simp,KF⟩
 ·have E0:Hid (D=C∧O=[]):=by
   rcases HWW.out with ⟨_,h0,h1⟩ | ⟨h0,_⟩ | ⟨h0,_⟩
   ·exact ⟨h0,h1⟩
   ·exact absurd h0 hC
   ·exact absurd h0 hC
  clear HWW HV HO
  have hC' : (C != 0)=true:=by simpa using hC
  have c0:=Cb.cell 0 _ rfl
  have c1:=Cb.cell 1 _ rfl
  obtain ⟨hn1,hn2⟩:=Kind.own_nil (K:=txnK) ((w1.alloc (.cells #[.int .i64 C,.int .i64 V] 53)).setRow w.heap.size #[.int .i64 C,.slice none 0 0])
  have KF:=below_row hB (Nat.le_refl w.heap.size) #[.int .i64 C,.slice none 0 0]
  have Rr:=Rb.row #[.int .i64 C,.slice none 0 0]
  go_wp2_with (first | (refine st_row (by kernel_rfl) 50 _ _ rfl _ #[.int .i64 C,.slice none 0 0] rfl rfl 50 _ Rb sz_txr rfl (by simp [Value.oneCell']) ?_))
  have y0:=Rr.cell 0 _ rfl
  have y1:=Rr.cell 1 _ rfl
  refine bodyPost_ret (v:=.agg #[.int .i64 C,.slice none 0 0]) (by simp [results,Tryz.results33,go_sem,y0,y1]) rfl ?_
  exact ⟨_,[],by rw [E0.out.1],by rw [E0.out.2];rfl,hn1,by rw [hn2];simp,by rw [hn2];simp,KF⟩

theorem dfT_n {ps:List InstQ} {n:Int} {qs:List TxnQ} (h:qs.map TxnQ.e=dfT (ps.map InstQ.e) n) (_:ps.length + nmL InstQ.n ps≤1048576):qs.length + nmL TxnQ.n qs≤1048576:=by
 rcases df_ways (ps.map InstQ.e) n with ⟨_,_,e⟩ | ⟨_,_,_,e⟩ | ⟨h0,h1,_,e⟩
 ·rw [e] at h
  have:qs=[]:=List.map_eq_nil_iff.1 h
  subst this
  simp [nmL]
 ·rw [e] at h
  have:qs=[]:=List.map_eq_nil_iff.1 h
  subst this
  simp [nmL]
 ·rw [e] at h
  have hF:∀ t∈qs.map TxnQ.e,t.F=0:=fun t ht=>def_F (ord_mem h0) _ t (by rw [← h];exact ht)
  have h4:=few_n7 hF
  have h16:qs.length≤16:=by
   have e1:qs.length=(qs.map TxnQ.e).length:=by simp
   rw [e1,h]
   have:=onc_len (takF ((ps.map InstQ.e).take n.toNat)) []
   have h5:=tak_len (ds:=(ps.map InstQ.e).take n.toNat) (fun x hx=>ord_mem h0 x (List.mem_of_mem_take hx))
   have h6:=((ord_iff _).1 h0).1.2
   rw [List.length_take] at h5
   unfold defL
   simp only [List.length_nil] at this
   omega
  omega

end Go.Proofs.YtpmkhnakgeillaaGreatDoor
namespace Go.Proofs.YtpmkhnakgeillaaGreatDoor
open Go.RowKit
set_option maxRecDepth 100000
section
variable {ops:Array Oper} {rest:List Oper} {op:Oper} {a:Act} {w:World} {Q:Exit→Act→World→Prop}
theorem st_mid (hw:Region.wanted op (yielded ops a.tmps)=true) (ty:TypeId) (x y:Operand) (ho:op.op=.store ty x y)
  (g o:Nat) (cells:Array Value) (hx:a.eval x=.pointer (some ⟨g,o,none⟩)) (hy:a.eval y=.agg cells)
  (t:TypeId) (old:Array Value) (hg:Blk w g t old) (hi:(Tryz.prog.info? ty).map (·.size)=some cells.size)
  (hold:o + cells.size≤old.size) (h1:cells.all (·.oneCell')=true)
  (h:wpList Tryz.prog ops Q rest (a.put op.dst undef) (w.setCells g o cells.toList)):wpList Tryz.prog ops Q (op :: rest) a w:=by
 simp only [wpList]
 rw [if_pos hw]
 refine Or.inl (wp_store_mid ty x y ho g o cells hx hy ?_ hi h1 h)
 intro j hj
 refine ⟨?_,hg.frozen _⟩
 rw [hg.cell (o + j) (old[o + j]'(by omega)) (by rw [Array.getElem?_eq_getElem])]
 rfl

end
/-- A node's replica is stored: five cells behind two. -/
theorem Blk.mid5 {w:World} {b:Nat} {t:TypeId} {c0 c1 d0 d1 d2 d3 d4:Value} (h:Blk w b t #[c0,c1,d0,d1,d2,d3,d4]) (x0 x1 x2 x3 x4:Value):Blk (w.setCells b 2 [x0,x1,x2,x3,x4]) b t #[c0,c1,x0,x1,x2,x3,x4]:=by
 have:=((((h.set 2 x0).set 3 x1).set 4 x2).set 5 x3).set 6 x4
 simpa only [World.setCells,List.setIfInBounds_toArray,List.set_cons_zero,List.set_cons_succ] using this

theorem out_mid5 (w:World) (b:Nat) (x0 x1 x2 x3 x4:Value):Out [b] w (w.setCells b 2 [x0,x1,x2,x3,x4]):=
 (((((Out.refl [b] w).set (b:=b) (j:=2) (u:=x0) (by simp)).set (b:=b) (j:=3) (u:=x1) (by simp)).set (b:=b) (j:=4) (u:=x2) (by simp)).set (b:=b) (j:=5) (u:=x3) (by simp)).set (b:=b) (j:=6) (u:=x4) (by simp)

theorem out_row11 (w:World) (g:Nat) (cs:Array Value):Out [g] w (w.setRow g cs):=
 ⟨rfl,rfl,rfl,by rw [setRow_size];exact Nat.le_refl _,fun k _ hn=>setRow_other w g k cs (by simpa using hn)⟩

end Go.Proofs.YtpmkhnakgeillaaGreatDoor
namespace Go.Proofs.YtpmkhnakgeillaaGreatDoor
open Go.RowKit
set_option maxRecDepth 100000
set_option maxHeartbeats 2000000 in
theorem szNode_k (kn sf:Int) (p:RepQ) (c:Int) (w:World) (h:repK.rd w p) (hn:RepQ.wf p) (h0:0≤c) (h1:c≤1048576) :
  Calls Tryz.prog 37 #[.agg #[.int .i64 kn,.int .i64 sf,p.vd,p.vb,p.vt,p.vu,p.vn],.int .i64 c] w fun e w' => ∃ r:Int,e=.returned (.int .i64 r)∧(¬ r < 0→(RepQ.n p:Int) + r=c)∧Below w.heap.size w w' := by
 have hm:=fun w h=>szReplica_k p c w h hn h0 h1
 have hr:=fun (w' : World) hb=>repK.rd_below (w' := w') h hb
 generalize (RepQ.n p:Int)=NP at *
 clear hn
 obtain ⟨vd,done,vb,base,vt,tent,vu,undos,vn,now⟩:=p
 obtain ⟨a0,k0,rfl⟩:∃ a c,vd=.slice a done.length c:=h.1.shape
 obtain ⟨a1,k1,rfl⟩:∃ a c,vb=.slice a base.length c:=h.2.1.shape
 obtain ⟨a2,k2,rfl⟩:∃ a c,vt=.slice a tent.length c:=h.2.2.1.shape
 obtain ⟨a3,k3,rfl⟩:∃ a c,vu=.slice a undos.length c:=h.2.2.2.1.shape
 obtain ⟨a4,k4,rfl⟩:∃ a c,vn=.slice a now.length c:=h.2.2.2.2.shape
 dsimp only at hm
 have hB:Below w.heap.size w (w.alloc (.cells #[.int .i64 kn,.int .i64 sf,.slice a0 done.length k0,.slice a1 base.length k1,.slice a2 tent.length k2,.slice a3 undos.length k3,.slice a4 now.length k4] 63)):=by go_grown
 have B:=Blk.new w 63 #[.int .i64 kn,.int .i64 sf,.slice a0 done.length k0,.slice a1 base.length k1,.slice a2 tent.length k2,.slice a3 undos.length k3,.slice a4 now.length k4]
 have q0:=B.cell 0 _ rfl
 have q1:=B.cell 1 _ rfl
 have q2:=B.cell 2 _ rfl
 have q3:=B.cell 3 _ rfl
 have q4:=B.cell 4 _ rfl
 have q5:=B.cell 5 _ rfl
 have q6:=B.cell 6 _ rfl
 go_enter Tryz.func37,Tryz.ntmps37
 go_wp2_with fail
 clear q0 q1 q2 q3 q4 q5 q6 B
 have hr0:=hr _ hB
 generalize w.alloc (.cells #[.int .i64 kn,.int .i64 sf,.slice a0 done.length k0,.slice a1 base.length k1,.slice a2 tent.length k2,.slice a3 undos.length k3,.slice a4 now.length k4] 63)=W at *
 refine (hm W hr0).mono ?_
 rintro e w1 ⟨r,rfl,hq,hb⟩
 replace hB:=hB.trans (hb.mono hB.size)
 by_cases hneg:r < 0
 ·go_wp2
  go_ret
  exact ⟨_,rfl,fun h=>absurd h (by decide),hB⟩
 ·go_wp2
  go_ret
  exact ⟨_,rfl,hq,hB⟩

set_option maxHeartbeats 4000000 in
theorem toNode_k (kn sf:Int) (p:RepQ) (w:World) (h:repK.rd w p) (hl:RepQ.n p≤1048576) :
  Calls Tryz.prog 39 #[.agg #[.int .i64 kn,.int .i64 sf,p.vd,p.vb,p.vt,p.vu,p.vn]] w fun e w' => ∃ p' : RepQ,e=.returned (.agg #[.int .i64 kn,.int .i64 sf,p'.vd,p'.vb,p'.vt,p'.vu,p'.vn])∧p'.e=p.e∧repK.own w' p' ∧ (repK.foot p').Nodup∧(∀ k∈repK.foot p',w.heap.size≤k)∧Below w.heap.size w w' := by
 have hm:=fun w h=>toReplica_k p w h hl
 have hr:=fun (w' : World) hb=>repK.rd_below (w' := w') h hb
 generalize p.e=PE at *
 obtain ⟨vd,done,vb,base,vt,tent,vu,undos,vn,now⟩:=p
 obtain ⟨a0,k0,rfl⟩:∃ a c,vd=.slice a done.length c:=h.1.shape
 obtain ⟨a1,k1,rfl⟩:∃ a c,vb=.slice a base.length c:=h.2.1.shape
 obtain ⟨a2,k2,rfl⟩:∃ a c,vt=.slice a tent.length c:=h.2.2.1.shape
 obtain ⟨a3,k3,rfl⟩:∃ a c,vu=.slice a undos.length c:=h.2.2.2.1.shape
 obtain ⟨a4,k4,rfl⟩:∃ a c,vn=.slice a now.length c:=h.2.2.2.2.shape
 dsimp only at hm
 clear hl
 have hB:Below w.heap.size w (((w.alloc (.cells #[.int .i64 kn,.int .i64 sf,.slice a0 done.length k0,.slice a1 base.length k1,.slice a2 tent.length k2,.slice a3 undos.length k3,.slice a4 now.length k4] 63)).alloc (.cells #[.int .i64 0,.int .i64 0,.slice none 0 0,.slice none 0 0,.slice none 0 0,.slice none 0 0,.slice none 0 0] 31)).alloc (.cells #[.int .i64 kn,.int .i64 sf,.slice none 0 0,.slice none 0 0,.slice none 0 0,.slice none 0 0,.slice none 0 0] 31)):=by go_grown
 have R:=(Blk.new (w.alloc (.cells #[.int .i64 kn,.int .i64 sf,.slice a0 done.length k0,.slice a1 base.length k1,.slice a2 tent.length k2,.slice a3 undos.length k3,.slice a4 now.length k4] 63)) 31 #[.int .i64 0,.int .i64 0,.slice none 0 0,.slice none 0 0,.slice none 0 0,.slice none 0 0,.slice none 0 0]).below (w' := (((w.alloc (.cells #[.int .i64 kn,.int .i64 sf,.slice a0 done.length k0,.slice a1 base.length k1,.slice a2 tent.length k2,.slice a3 undos.length k3,.slice a4 now.length k4] 63)).alloc (.cells #[.int .i64 0,.int .i64 0,.slice none 0 0,.slice none 0 0,.slice none 0 0,.slice none 0 0,.slice none 0 0] 31)).alloc (.cells #[.int .i64 kn,.int .i64 sf,.slice none 0 0,.slice none 0 0,.slice none 0 0,.slice none 0 0,.slice none 0 0] 31))) (by go_grown)
 have O:=Blk.new ((w.alloc (.cells #[.int .i64 kn,.int .i64 sf,.slice a0 done.length k0,.slice a1 base.length k1,.slice a2 tent.length k2,.slice a3 undos.length k3,.slice a4 now.length k4] 63)).alloc (.cells #[.int .i64 0,.int .i64 0,.slice none 0 0,.slice none 0 0,.slice none 0 0,.slice none 0 0,.slice none 0 0] 31)) 31 #[.int .i64 kn,.int .i64 sf,.slice none 0 0,.slice none 0 0,.slice none 0 0,.slice none 0 0,.slice none 0 0]
 have hS:(((w.alloc (.cells #[.int .i64 kn,.int .i64 sf,.slice a0 done.length k0,.slice a1 base.length k1,.slice a2 tent.length k2,.slice a3 undos.length k3,.slice a4 now.length k4] 63)).alloc (.cells #[.int .i64 0,.int .i64 0,.slice none 0 0,.slice none 0 0,.slice none 0 0,.slice none 0 0,.slice none 0 0] 31)).alloc (.cells #[.int .i64 kn,.int .i64 sf,.slice none 0 0,.slice none 0 0,.slice none 0 0,.slice none 0 0,.slice none 0 0] 31)).heap.size=w.heap.size + 3:=by simp only [World.size_alloc]
 simp only [World.size_alloc] at R O
 have B:=(Blk.new w 63 #[.int .i64 kn,.int .i64 sf,.slice a0 done.length k0,.slice a1 base.length k1,.slice a2 tent.length k2,.slice a3 undos.length k3,.slice a4 now.length k4]).below (w' := (((w.alloc (.cells #[.int .i64 kn,.int .i64 sf,.slice a0 done.length k0,.slice a1 base.length k1,.slice a2 tent.length k2,.slice a3 undos.length k3,.slice a4 now.length k4] 63)).alloc (.cells #[.int .i64 0,.int .i64 0,.slice none 0 0,.slice none 0 0,.slice none 0 0,.slice none 0 0,.slice none 0 0] 31)).alloc (.cells #[.int .i64 0,.int .i64 0,.slice none 0 0,.slice none 0 0,.slice none 0 0,.slice none 0 0,.slice none 0 0] 31))) (by go_grown)
 have q0:=B.cell 0 _ rfl
 have q1:=B.cell 1 _ rfl
 have q2:=B.cell 2 _ rfl
 have q3:=B.cell 3 _ rfl
 have q4:=B.cell 4 _ rfl
 have q5:=B.cell 5 _ rfl
 have q6:=B.cell 6 _ rfl
 go_enter Tryz.func39,Tryz.ntmps39
 go_wp2_with fail
 clear q0 q1 q2 q3 q4 q5 q6 B
 have hr0:=hr _ hB
 generalize (((w.alloc (.cells #[.int .i64 kn,.int .i64 sf,.slice a0 done.length k0,.slice a1 base.length k1,.slice a2 tent.length k2,.slice a3 undos.length k3,.slice a4 now.length k4] 63)).alloc (.cells #[.int .i64 0,.int .i64 0,.slice none 0 0,.slice none 0 0,.slice none 0 0,.slice none 0 0,.slice none 0 0] 31)).alloc (.cells #[.int .i64 kn,.int .i64 sf,.slice none 0 0,.slice none 0 0,.slice none 0 0,.slice none 0 0,.slice none 0 0] 31))=W at *
 refine (hm W hr0).mono ?_
 rintro e w1 ⟨q,rfl,E0,O0,N0,G0,hb⟩
 replace hB:=hB.trans (hb.mono hB.size)
 replace R:=R.below hb
 replace O:=O.below hb
 have hs1:=hb.size
 clear hb hm hr hr0
 obtain ⟨vqd,qd,vqb,qb,vqt,qt,vqu,qu,vqn,qn⟩:=q
 obtain ⟨x0,z0,rfl⟩:∃ a c,vqd=.slice a qd.length c:=O0.1.shape
 obtain ⟨x1,z1,rfl⟩:∃ a c,vqb=.slice a qb.length c:=O0.2.1.shape
 obtain ⟨x2,z2,rfl⟩:∃ a c,vqt=.slice a qt.length c:=O0.2.2.1.shape
 obtain ⟨x3,z3,rfl⟩:∃ a c,vqu=.slice a qu.length c:=O0.2.2.2.1.shape
 obtain ⟨x4,z4,rfl⟩:∃ a c,vqn=.slice a qn.length c:=O0.2.2.2.2.shape
 have U1:=out_mid5 w1 (w.heap.size + 1 + 1) (.slice x0 qd.length z0) (.slice x1 qb.length z1) (.slice x2 qt.length z2) (.slice x3 qu.length z3) (.slice x4 qn.length z4)
 have O2:=O.mid5 (.slice x0 qd.length z0) (.slice x1 qb.length z1) (.slice x2 qt.length z2) (.slice x3 qu.length z3) (.slice x4 qn.length z4)
 have R2:Blk _ _ _ _:=(U1.block _ R.lt (by simp)).trans R
 have OW:=repK.own_out O0 U1 (fun k hk=>by have:=G0 k hk;simp;omega)
 have hB2:=Out.keep hB U1 hB.size (fun k hk=>by simp at hk;omega)
 have hsz:(Tryz.prog.info? 29).map (·.size)=some (#[.slice x0 qd.length z0,.slice x1 qb.length z1,.slice x2 qt.length z2,.slice x3 qu.length z3,.slice x4 qn.length z4]:Array Value).size:=by kernel_rfl
 have hsn:(Tryz.prog.info? 31).map (·.size)=some (#[.int .i64 kn,.int .i64 sf,.slice x0 qd.length z0,.slice x1 qb.length z1,.slice x2 qt.length z2,.slice x3 qu.length z3,.slice x4 qn.length z4]:Array Value).size:=by kernel_rfl
 generalize hV:w1.setCells (w.heap.size + 1 + 1) 2 [.slice x0 qd.length z0,.slice x1 qb.length z1,.slice x2 qt.length z2,.slice x3 qu.length z3,.slice x4 qn.length z4]=V at *
 have R3:=R2.row #[.int .i64 kn,.int .i64 sf,.slice x0 qd.length z0,.slice x1 qb.length z1,.slice x2 qt.length z2,.slice x3 qu.length z3,.slice x4 qn.length z4]
 have U3:=out_row11 V (w.heap.size + 1) #[.int .i64 kn,.int .i64 sf,.slice x0 qd.length z0,.slice x1 qb.length z1,.slice x2 qt.length z2,.slice x3 qu.length z3,.slice x4 qn.length z4]
 have OW3:=repK.own_out OW U3 (fun k hk=>by have:=G0 k hk;simp;omega)
 have hB3:=Out.keep hB2 U3 hB2.size (fun k hk=>by simp at hk;omega)
 have q0:=O2.cell 0 _ rfl
 have q1:=O2.cell 1 _ rfl
 have q2:=O2.cell 2 _ rfl
 have q3:=O2.cell 3 _ rfl
 have q4:=O2.cell 4 _ rfl
 have q5:=O2.cell 5 _ rfl
 have q6:=O2.cell 6 _ rfl
 go_wp2_with (first | (refine st_mid (by kernel_rfl) 29 _ _ rfl _ 2 #[.slice x0 qd.length z0,.slice x1 qb.length z1,.slice x2 qt.length z2,.slice x3 qu.length z3,.slice x4 qn.length z4] rfl rfl 31 _ O hsz (by simp) (by simp [Value.oneCell']) ?_;(try dsimp only);rw [hV]) | (refine st_row (by kernel_rfl) 31 _ _ rfl _ #[.int .i64 kn,.int .i64 sf,.slice x0 qd.length z0,.slice x1 qb.length z1,.slice x2 qt.length z2,.slice x3 qu.length z3,.slice x4 qn.length z4] rfl rfl 31 _ R2 hsn rfl (by simp [Value.oneCell']) ?_))
 have r0:=R3.cell 0 _ rfl
 have r1:=R3.cell 1 _ rfl
 have r2:=R3.cell 2 _ rfl
 have r3:=R3.cell 3 _ rfl
 have r4:=R3.cell 4 _ rfl
 have r5:=R3.cell 5 _ rfl
 have r6:=R3.cell 6 _ rfl
 exact bodyPost_ret (v:=.agg #[.int .i64 kn,.int .i64 sf,.slice x0 qd.length z0,.slice x1 qb.length z1,.slice x2 qt.length z2,.slice x3 qu.length z3,.slice x4 qn.length z4]) (by simp [results,Tryz.results39,go_sem,r0,r1,r2,r3,r4,r5,r6]) rfl ⟨_,rfl,E0,OW3,N0,fun k hk=>by have:=G0 k hk;omega,hB3⟩

set_option maxHeartbeats 2000000 in
theorem eqNode_k (kn sf:Int) (p p' : RepQ) (w:World) (h:repK.rd w p) (h' : repK.rd w p') (he:p.e=p'.e) (hl:RepQ.n p≤1048576) :
  Calls Tryz.prog 41 #[.agg #[.int .i64 kn,.int .i64 sf,p.vd,p.vb,p.vt,p.vu,p.vn],.agg #[.int .i64 kn,.int .i64 sf,p'.vd,p'.vb,p'.vt,p'.vu,p'.vn]] w fun e w' => e=.returned (.bool true)∧Below w.heap.size w w' := by
 have hm:=fun w h h' => eqReplica_k p p' w h h' he hl
 have hr:=fun (w' : World) hb=>repK.rd_below (w' := w') h hb
 have hr' := fun (w' : World) hb=>repK.rd_below (w' := w') h' hb
 obtain ⟨vd,done,vb,base,vt,tent,vu,undos,vn,now⟩:=p
 obtain ⟨a0,k0,rfl⟩:∃ a c,vd=.slice a done.length c:=h.1.shape
 obtain ⟨a1,k1,rfl⟩:∃ a c,vb=.slice a base.length c:=h.2.1.shape
 obtain ⟨a2,k2,rfl⟩:∃ a c,vt=.slice a tent.length c:=h.2.2.1.shape
 obtain ⟨a3,k3,rfl⟩:∃ a c,vu=.slice a undos.length c:=h.2.2.2.1.shape
 obtain ⟨a4,k4,rfl⟩:∃ a c,vn=.slice a now.length c:=h.2.2.2.2.shape
 obtain ⟨vd',done',vb',base',vt',tent',vu',undos',vn',now'⟩:=p'
 obtain ⟨a0',k0',rfl⟩:∃ a c,vd' = .slice a done'.length c:=h'.1.shape
 obtain ⟨a1',k1',rfl⟩:∃ a c,vb' = .slice a base'.length c:=h'.2.1.shape
 obtain ⟨a2',k2',rfl⟩:∃ a c,vt' = .slice a tent'.length c:=h'.2.2.1.shape
 obtain ⟨a3',k3',rfl⟩:∃ a c,vu' = .slice a undos'.length c:=h'.2.2.2.1.shape
 obtain ⟨a4',k4',rfl⟩:∃ a c,vn' = .slice a now'.length c:=h'.2.2.2.2.shape
 dsimp only at hm
 clear he hl
 have hB:Below w.heap.size w ((w.alloc (.cells #[.int .i64 kn,.int .i64 sf,.slice a0 done.length k0,.slice a1 base.length k1,.slice a2 tent.length k2,.slice a3 undos.length k3,.slice a4 now.length k4] 31)).alloc (.cells #[.int .i64 kn,.int .i64 sf,.slice a0' done'.length k0',.slice a1' base'.length k1',.slice a2' tent'.length k2',.slice a3' undos'.length k3',.slice a4' now'.length k4'] 31)):=by go_grown
 have B:=(Blk.new w 31 #[.int .i64 kn,.int .i64 sf,.slice a0 done.length k0,.slice a1 base.length k1,.slice a2 tent.length k2,.slice a3 undos.length k3,.slice a4 now.length k4]).below (w' := (w.alloc (.cells #[.int .i64 kn,.int .i64 sf,.slice a0 done.length k0,.slice a1 base.length k1,.slice a2 tent.length k2,.slice a3 undos.length k3,.slice a4 now.length k4] 31)).alloc (.cells #[.int .i64 kn,.int .i64 sf,.slice a0' done'.length k0',.slice a1' base'.length k1',.slice a2' tent'.length k2',.slice a3' undos'.length k3',.slice a4' now'.length k4'] 31)) (by go_grown)
 have B' := Blk.new (w.alloc (.cells #[.int .i64 kn,.int .i64 sf,.slice a0 done.length k0,.slice a1 base.length k1,.slice a2 tent.length k2,.slice a3 undos.length k3,.slice a4 now.length k4] 31)) 31 #[.int .i64 kn,.int .i64 sf,.slice a0' done'.length k0',.slice a1' base'.length k1',.slice a2' tent'.length k2',.slice a3' undos'.length k3',.slice a4' now'.length k4']
 simp only [World.size_alloc] at B'
 have q0:=B.cell 0 _ rfl
 have q1:=B.cell 1 _ rfl
 have q2:=B.cell 2 _ rfl
 have q3:=B.cell 3 _ rfl
 have q4:=B.cell 4 _ rfl
 have q5:=B.cell 5 _ rfl
 have q6:=B.cell 6 _ rfl
 have s0:=B'.cell 0 _ rfl
 have s1:=B'.cell 1 _ rfl
 have s2:=B'.cell 2 _ rfl
 have s3:=B'.cell 3 _ rfl
 have s4:=B'.cell 4 _ rfl
 have s5:=B'.cell 5 _ rfl
 have s6:=B'.cell 6 _ rfl
 have n0:(kn != kn)=false:=by simp
 have n1:(sf != sf)=false:=by simp
 go_enter Tryz.func41,Tryz.ntmps41
 go_wp2_with fail
 clear q0 q1 q2 q3 q4 q5 q6 s0 s1 s2 s3 s4 s5 s6 B B'
 have hr0:=hr _ hB
 have hr0' := hr' _ hB
 generalize ((w.alloc (.cells #[.int .i64 kn,.int .i64 sf,.slice a0 done.length k0,.slice a1 base.length k1,.slice a2 tent.length k2,.slice a3 undos.length k3,.slice a4 now.length k4] 31)).alloc (.cells #[.int .i64 kn,.int .i64 sf,.slice a0' done'.length k0',.slice a1' base'.length k1',.slice a2' tent'.length k2',.slice a3' undos'.length k3',.slice a4' now'.length k4'] 31))=W at *
 refine (hm W hr0 hr0').mono ?_
 rintro e w3 ⟨rfl,hb⟩
 replace hB:=hB.trans (hb.mono hB.size)
 go_wp2
 go_ret
 exact ⟨rfl,hB⟩

end Go.Proofs.YtpmkhnakgeillaaGreatDoor
namespace Go.Proofs.YtpmkhnakgeillaaGreatDoor
open Go.RowKit
set_option maxRecDepth 100000
theorem uss_n {ps qs:List USQ} (h:ps.map USQ.e=qs.map USQ.e):ps.length + nmL USQ.n ps=qs.length + nmL USQ.n qs:=by
 have e:∀ l:List USQ,nmL USQ.n l=nmL List.length (l.map USQ.e):=fun l=>by simp only [nmL,List.map_map];rfl
 have hl:ps.length=qs.length:=by simpa using congrArg List.length h
 rw [e,e,h,hl]

theorem txq_n {ps qs:List TxnQ} (h:ps.map TxnQ.e=qs.map TxnQ.e):ps.length + nmL TxnQ.n ps=qs.length + nmL TxnQ.n qs:=by
 have e:∀ l:List TxnQ,nmL TxnQ.n l=nmL TxnD.n (l.map TxnQ.e):=fun l=>by simp only [nmL,List.map_map];rfl
 have hl:ps.length=qs.length:=by simpa using congrArg List.length h
 rw [e,e,h,hl]

theorem rep_n {p q:RepQ} (h:p.e=q.e):p.n=q.n:=by
 simp only [RepQ.e,RepE.mk.injEq] at h
 obtain ⟨h0,h1,h2,h3,h4⟩:=h
 simp only [RepQ.n]
 have a0:=txq_n h0
 have a2:=txq_n h2
 have a3:=uss_n h3
 rw [h1,h4]
 omega

end Go.Proofs.YtpmkhnakgeillaaGreatDoor

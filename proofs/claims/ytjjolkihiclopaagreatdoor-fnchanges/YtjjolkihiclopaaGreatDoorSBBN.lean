/- Texts joined, with what the law reaches alone. -/
import Derived.Test.YtjjolkihiclopaaGreatDoorSBBM
import Derived.Test.YtjjolkihiclopaaGreatDoorSBBC
import Derived.Maps.Own
import Derived.Maps.Keyed
import Derived.Maps.Views
import Derived.DeepKeys4
import Derived.Maps.OwnSet
import Derived.WideKeyEntry
import Derived.Test.YtjjolkihiclopaaGreatDoorSBAL
import Derived.Test.YtjjolkihiclopaaGreatDoorSBAB
import Derived.Lib.SmallJoins
set_option linter.unusedVariables false
set_option linter.unusedSimpArgs false
namespace Go.Proofs.YtjjolkihiclopaaGreatDoor
open Go.RowKit
open Go.BigFrame
set_option maxRecDepth 100000
theorem rgtb {x:InstE} (h:insF x=0):x.has=false→x.batch=[]:=by
 obtain ⟨h0,_⟩:=ins_zero h
 exact (shp_zero h0).2.2.2.1

theorem batp {p:InstQ} (h:insF (InstQ.e p)=0) (hh:p.has=true):0 < p.batch.length:=by
 obtain ⟨h0,_⟩:=ins_zero h
 have:=(shp_zero h0).2.2.2.2 hh
 unfold batF at this
 by_cases hl:(InstQ.e p).batch.length < 1∨4 < (InstQ.e p).batch.length
 ·rw [if_pos hl] at this
  exact absurd this (by decide)
 ·have h2:(InstQ.e p).batch.length=p.batch.length:=by show (p.batch.map TxnQ.e).length=_;simp
  omega

theorem tak_yes {ds:List InstE} (k:Nat) (hk:k < ds.length) (h0:insF (ds.getD k instNo)=0) (h:((ds.getD k instNo).has && (ocV (ds.getD k instNo) == 1))=true):takF (ds.take (k + 1))=takF (ds.take k) ++ (ds.getD k instNo).batch:=by
 rw [takF_succ ds k hk]
 rw [Bool.and_eq_true,beq_iff_eq] at h
 have hv:=h.2
 unfold ocV at hv
 rw [if_pos h0] at hv
 by_cases h3:outV (ds.getD k instNo).dec=3
 ·rw [if_pos h3] at hv
  exact absurd hv (by decide)
 ·rw [if_neg h3] at hv
  rw [if_pos hv]

theorem tak_no {ds:List InstE} (k:Nat) (hk:k < ds.length) (h0:insF (ds.getD k instNo)=0) (h:((ds.getD k instNo).has && (ocV (ds.getD k instNo) == 1))=false):takF (ds.take (k + 1))=takF (ds.take k):=by
 rw [takF_succ ds k hk]
 rw [Bool.and_eq_false_iff] at h
 have hb0:=(rgtb h0)
 rcases h with h | h
 ·rw [hb0 h]
  simp
 ·have hv:¬ ocV (ds.getD k instNo)=1:=by simpa using h
  unfold ocV at hv
  rw [if_pos h0] at hv
  by_cases h3:outV (ds.getD k instNo).dec=3
  ·rw [if_neg (by rw [h3];decide)]
   simp
  ·rw [if_neg h3] at hv
   rw [if_neg hv]
   simp

set_option maxHeartbeats 8000000 in
theorem takenIn_any (v:Value) (ps:List InstQ) (w:World) (hG:Rul w) (h:instK.At w v ps) (hin:∀ p∈ps,insF (InstQ.e p)=0) (h4:ps.length≤4) (hl:(ps.length + nmL InstQ.n ps)≤1048576) :
  Calls Tryz.prog 32 #[v] w fun e w' => ∃ (v' : Value) (qs:List TxnQ),e=.returned v' ∧ qs.map TxnQ.e=takF (ps.map InstQ.e)∧qs.length≤16∧w'.ownsRow w.heap.size 44 4 v' qs.length (txnK.row qs)∧(∀ q∈qs,txnK.rd w q)∧Below w.heap.size w w' := by
 obtain ⟨a,cap,rfl⟩:=h.shape
 obtain ⟨i0,hi,hz0,hz1,hz2⟩:=info_parts infoTxn
 have hn1:w.ownsRow w.heap.size 44 4 (.slice none 0 0) ([]:List TxnQ).length (txnK.row []):=World.ownsRow_nil _ _ _ _
 have HE0:Hid (([]:List TxnQ).map TxnQ.e=takF ((ps.map InstQ.e).take 0)):=by show _=_;simp [takF]
 have HL0:Hid (([]:List TxnQ).length≤4 * 0):=by show _≤_;simp
 have HR0:Hid (∀ q∈([]:List TxnQ),txnK.rd w q):=fun q hq=>by simp at hq
 go_enter Tryz.func32,Tryz.ntmps32
 go_wp2
 go_loopw [3,8] (fun v j wr=>∃ (k:Nat) (qs:List TxnQ),k≤ps.length∧j=.int .i64 k∧Hid (qs.map TxnQ.e=takF ((ps.map InstQ.e).take k))∧Hid (qs.length≤4 * k)∧wr.ownsRow w.heap.size 44 4 v qs.length (txnK.row qs)∧Hid (∀ q∈qs,txnK.rd w q)∧Below w.heap.size w wr) (fun _ j _=>ps.length - (intOf j).toNat)
 case atStart=>exact ⟨0,[],Nat.zero_le _,rfl,HE0,HL0,hn1,HR0,Below.refl _ _⟩
 case round=>
  clear HE0 HL0 hn1 HR0
  obtain ⟨k,qs,hk,rfl,HE,HL,hO,HR,hb⟩:=hrel
  obtain ⟨sa,sc,rfl⟩:=own_shape hO
  by_cases hlt:k < ps.length
  ·have h0:=hin _ (List.getElem_mem hlt)
   have hat:=inst_at ps k hlt
   have HY:Hid ((ps[k].has && (ocV (InstQ.e ps[k]) == 1))=true→takF ((ps.map InstQ.e).take (k + 1))=qs.map TxnQ.e ++ ps[k].batch.map TxnQ.e):=fun hx=>by
    rw [HE.out]
    have:=tak_yes (ds:=ps.map InstQ.e) k (by simpa using hlt) (by rw [hat];exact h0) (by rw [hat];exact hx)
    rw [hat] at this
    exact this
   have HN:Hid ((ps[k].has && (ocV (InstQ.e ps[k]) == 1))=false→takF ((ps.map InstQ.e).take (k + 1))=qs.map TxnQ.e):=fun hx=>by
    rw [HE.out]
    exact tak_no (ds:=ps.map InstQ.e) k (by simpa using hlt) (by rw [hat];exact h0) (by rw [hat];exact hx)
   have hb4:=bat4 h0
   have HNE:Hid (ps[k].has=true→0 < ps[k].batch.length):=fun hx=>batp h0 hx
   have hn:InstQ.n ps[k]≤1048576:=by have:=nmI_le ps k hlt;omega
   have hoc0:=implOutcome_any ps[k]
   have hoc:=fun w hG h=>hoc0 w hG h hn
   obtain ⟨b,off,rfl,hbs,hc,hrd⟩:=h.cell (by decide) k hlt
   have hc' : ∀ j x,(instK.cells ps[k])[j]? = some x→w.cell? ⟨b,off + k * 4 + j,none⟩=some x:=hc
   have c0:=cellB (hc' 0 (.bool ps[k].has) rfl) hb
   have c1:=cellB (hc' 1 ps[k].vb rfl) hb
   have c2:=cellB (hc' 2 ps[k].vr rfl) hb
   have c3:=cellB (hc' 3 ps[k].vd rfl) hb
   rw [Nat.add_zero] at c0
   have hbs' : b < wr.heap.size:=Nat.lt_of_lt_of_le hbs hb.size
   clear hc hc' hoc0 h0 hat HE
   generalize ocC (InstQ.e ps[k])=OC at *
   generalize ocV (InstQ.e ps[k])=OV at *
   generalize ps[k]=p at *
   obtain ⟨has,vb,batch,vr,rounds,vd,dec⟩:=p
   have hT:txnK.At w vb batch:=hrd.1
   obtain ⟨ba,bk,rfl⟩:=hT.shape
   obtain ⟨va,vk,rfl⟩:∃ a c,vr=.slice a rounds.length c:=hrd.2.1.shape
   obtain ⟨da,dk,rfl⟩:∃ a c,vd=.slice a dec.length c:=hrd.2.2.shape
   dsimp only at c0 c1 c2 c3 hoc HY HN hb4 HNE
   have hbY:Below wr.heap.size wr (wr.alloc (.cells #[.bool has,.slice ba batch.length bk,.slice va rounds.length vk,.slice da dec.length dk] 49)):=by go_grown
   have Yb:=Blk.new wr 49 #[.bool has,.slice ba batch.length bk,.slice va rounds.length vk,.slice da dec.length dk]
   replace hO:=own_below hO hbY
   replace hb:=hb.trans (hbY.mono hb.size)
   have hf1:=fieldI1 OC OV
   have HQL:Hid (qs.length≤16):=show _≤_ by have:=HL.out;omega
   cases has with
   | false=>
    have HR2:Hid (qs.map TxnQ.e=takF ((ps.map InstQ.e).take (k + 1))):=show _=_ by rw [HN.out rfl]
    have HL2:Hid (qs.length≤4 * (k + 1)):=show _≤_ by have:=HL.out;omega
    clear HY HN HNE HL hoc Yb
    go_wp2_with fail
    generalize wr.alloc (.cells #[.bool false,.slice ba batch.length bk,.slice va rounds.length vk,.slice da dec.length dk] 49)=Y at *
    go_wp2
    go_roundw
    case rel=>exact ⟨k + 1,qs,by omega,by go_num,HR2,HL2,hO,HR,hb⟩
    case measure=>simp [intOf];omega
   | true=>
    have rdY:=instK.rd_below (w' := wr.alloc (.cells #[.bool true,.slice ba batch.length bk,.slice va rounds.length vk,.slice da dec.length dk] 49)) hrd hb
    go_wp2_with fail
    generalize wr.alloc (.cells #[.bool true,.slice ba batch.length bk,.slice va rounds.length vk,.slice da dec.length dk] 49)=Y at *
    clear c0 c1 c2 c3 hbY
    refine (hoc Y (hG.below hb) rdY).mono ?_
    rintro e w2 ⟨rfl,hb2⟩
    replace hO:=own_below hO hb2
    replace hb:=hb.trans (hb2.mono hb.size)
    replace Yb:=Yb.below hb2
    clear hb2 hoc rdY
    cases hv:(OV == 1) with
    | false=>
     have HR2:Hid (qs.map TxnQ.e=takF ((ps.map InstQ.e).take (k + 1))):=show _=_ by rw [HN.out (by rw [hv];rfl)]
     have HL2:Hid (qs.length≤4 * (k + 1)):=show _≤_ by have:=HL.out;omega
     clear HY HN HNE HL Yb
     go_wp2
     go_roundw
     case rel=>exact ⟨k + 1,qs,by omega,by go_num,HR2,HL2,hO,HR,hb⟩
     case measure=>simp [intOf];omega
    | true=>
     have HY2:=HY.out (by rw [hv];rfl)
     have hne:=HNE.out (by simp)
     have HR2:Hid ((qs ++ batch).map TxnQ.e=takF ((ps.map InstQ.e).take (k + 1))):=show _=_ by rw [HY2,List.map_append]
     have HL2:Hid ((qs ++ batch).length≤4 * (k + 1)):=show _≤_ by have:=HL.out;rw [List.length_append];omega
     have HRR:Hid (∀ q∈qs ++ batch,txnK.rd w q):=fun q hq=>by
      rcases List.mem_append.1 hq with hq | hq
      ·exact HR.out q hq
      ·obtain ⟨a9,c9,e9,hL9,hr9⟩:=hT
       exact hr9 q hq
     have hT2:=hT.below hb
     obtain ⟨bb,bo,hba⟩:∃ bb bo,ba=some ⟨bb,bo,none⟩:=by
      obtain ⟨b9,o9,e9,_⟩:=hT2.cell (by decide) 0 hne
      exact ⟨b9,o9,e9⟩
     subst hba
     have hsrc:∀ j u,(txnK.row batch)[j]? = some u→w2.cell? ((⟨bb,bo,none⟩:Addr).add j)=some u:=fun j u hu=>by
      obtain ⟨a9,c9,e9,hL9,hr9⟩:=hT2
      simp only [Value.slice.injEq] at e9
      obtain ⟨rfl,_,rfl⟩:=e9
      rcases hL9 with h9 | ⟨b9,o9,ea,_,hc9⟩
      ·rw [h9] at hu
       simp at hu
      ·simp only [Option.some.injEq,Addr.mk.injEq,and_true] at ea
       obtain ⟨rfl,rfl⟩:=ea
       rw [Addr.add_lit]
       exact hc9 j u hu
     have hone:∀ u∈txnK.row batch,u.oneCell' = true:=fun u hu=>by
      obtain ⟨q,hq,hu⟩:=List.mem_flatMap.1 hu
      have hva:∃ a c,q.va=.slice a q.acts.length c:=by
       obtain ⟨a9,c9,e9,hL9,hr9⟩:=hT
       have h9:actK.At w q.va q.acts:=hr9 q hq
       exact h9.shape
      obtain ⟨a9,c9,e9⟩:=hva
      have hu2:u∈[Value.int .i64 q.i,.int .i64 q.s,.int .i64 q.q,q.va]:=hu
      simp only [List.mem_cons,List.not_mem_nil,or_false] at hu2
      rcases hu2 with rfl | rfl | rfl | rfl
      ·rfl
      ·rfl
      ·rfl
      ·rw [e9];rfl
     have hrl:(txnK.row batch).length=batch.length * 4:=Kind.row_length batch
     have y1:=Yb.cell 1 _ rfl
     clear HY HN HNE HL HR HY2
     go_wp2_with (at_builtin;refine wpList_append_own_at _ rfl _ _ 27 rfl w.heap.size 44 i0 (.agg #[.int .i64 0,.int .i64 0,.int .i64 0,.slice none 0 0]) 4 48 Tryz.underlying27 hi hz0 hz1 hz2 rfl (by decide) _ qs.length (txnK.row qs) rfl hO ⟨bb,bo,none⟩ batch.length bk (txnK.row batch) rfl hrl hsrc hone ?c3 ?c4 ?c5 ?_)
     all_goals try (case c3=>have:=HQL.out;unfold maxLen;omega)
     all_goals try (case c4=>have:=HQL.out;omega)
     all_goals try (case c5=>exact hb.size)
     intro v' w5 hown hgrow hnil hat
     have hrow:txnK.row (qs ++ batch)=txnK.row qs ++ txnK.row batch:=by simp [Kind.row]
     rw [← hrow,← List.length_append] at hown
     have hb5:Below w.heap.size w w5:=hb.grown hgrow hb.size (fun j hj=>(hO.lt j hj).1)
     clear hnil hat hgrow hrow hO hsrc hone hrl y1 Yb hT2 hb
     go_wp2
     go_roundw
     case rel=>exact ⟨k + 1,_,by omega,by go_num,HR2,HL2,hown,HRR,hb5⟩
     case measure=>simp [intOf];omega
  ·have hkl:k=ps.length:=by omega
   subst hkl
   have hE:=HE.out
   rw [List.take_of_length_le (by simp)] at hE
   have hL:=HL.out
   clear HE
   go_wp2
   go_ret
   first | exact ⟨_,qs,rfl,hE,by omega,hO,HR.out,hb⟩ | exact ⟨_,rfl,qs,hE,by omega,hO,HR.out,hb⟩

end Go.Proofs.YtjjolkihiclopaaGreatDoor
namespace Go.Proofs.YtjjolkihiclopaaGreatDoor
open Go.RowKit Go.Maps
set_option maxRecDepth 100000
theorem laidP:laidOutB Tryz.prog=true:=by kernel_rfl

theorem rowNm:(89:TypeId) < Tryz.prog.types.size:=of_decide_eq_true (by kernel_rfl)

theorem wideNm:(match Tryz.prog.underlying 89 with | some (.array _ _) | some (.struct _)=>true | _=>false)=true:=by kernel_rfl

theorem lawNm:Keyed Tryz.prog 89:=Keyed.of_law (deep_law_laid laidP (m:=2) (by omega) rowNm (by kernel_rfl) wideNm)

theorem keyTNm:Tryz.prog.keyType 89=true:=by kernel_rfl

theorem szP:∃ m,Tryz.prog.types.size + 1=m + 2:=⟨_,rfl⟩

theorem key_nm (i s q:Int) (hi:(Lit.int .i64 i).wf=true) (hs:(Lit.int .i64 s).wf=true) (hq:(Lit.int .i64 q).wf=true):∃ l,keyOf Tryz.prog 89 (.agg #[.int .i64 i,.int .i64 s,.int .i64 q])=some l:=by
 obtain ⟨m,hm⟩:=szP
 have hc:Tryz.prog.cellsOf 89=3:=by kernel_rfl
 have hc1:Tryz.prog.cellsOf 2=1:=by kernel_rfl
 have hf:(Value.agg #[.int .i64 i,.int .i64 s,.int .i64 q]).formed Tryz.prog 89=true:=by
  simp [Value.formed,Tryz.underlying89,hc]
 unfold keyOf
 rw [Tryz.underlying89]
 simp only [keyTNm,hf,Bool.and_self,if_true,hm]
 simp [Program.keyLits,Tryz.underlying89,Tryz.underlying2,hc,hc1,Value.cells,hi,hs,hq]

end Go.Proofs.YtjjolkihiclopaaGreatDoor
namespace Go.Proofs.YtjjolkihiclopaaGreatDoor
open Go.RowKit Go.Maps
set_option maxRecDepth 100000
abbrev Nm:=Int × Int × Int

def nmV (x:Nm):Value:=.agg #[.int .i64 x.1,.int .i64 x.2.1,.int .i64 x.2.2]

def nmW (x:Nm):Prop:=(Lit.int .i64 x.1).wf=true∧(Lit.int .i64 x.2.1).wf=true∧(Lit.int .i64 x.2.2).wf=true

noncomputable def kyL (x:Nm):Lit:=(keyOf Tryz.prog 89 (nmV x)).getD (.bool false)

theorem kyL_key {x:Nm} (h:nmW x):keyOf Tryz.prog 89 (nmV x)=some (kyL x):=by
 obtain ⟨l,hl⟩:=key_nm x.1 x.2.1 x.2.2 h.1 h.2.1 h.2.2
 have e:keyOf Tryz.prog 89 (nmV x)=some l:=hl
 unfold kyL
 rw [e]
 rfl

theorem kyL_inj {x y:Nm} (hx:nmW x) (hy:nmW y) (h:kyL x=kyL y):x=y:=by
 have e1:=kyL_key hx
 have e2:=kyL_key hy
 rw [← h] at e2
 have e:=lawNm.inj e1 e2
 obtain ⟨a,b,c⟩:=x
 obtain ⟨a',b',c'⟩:=y
 simp [nmV] at e
 obtain ⟨rfl,rfl,rfl⟩:=e
 rfl

/-- The map counts the names of ns. -/
def Cnt {H:Type} (D:DataW H) (ns:List Nm):Prop:=IsMap D∧∀ x,nmW x→D.atKey (kyL x) (.lit (.int .i64 0))=.lit (.int .i64 (ns.count x))

theorem Cnt.none {H:Type}:Cnt (H:=H) (.map []) []:=⟨⟨[],rfl⟩,fun x _=>rfl⟩

theorem Cnt.put {H:Type} {D:DataW H} {ns:List Nm} (h:Cnt D ns) {x:Nm} (hx:nmW x):Cnt (D.put (kyL x) (.lit (.int .i64 ((ns.count x:Int) + 1)))) (ns ++ [x]):=by
 refine ⟨h.1.put _ _,fun y hy=>?_⟩
 by_cases e:y=x
 ·subst e
  rw [atKey_put_same h.1 (lawNm.key (kyL_key hx))]
  simp [List.count_append]
 ·rw [atKey_put_other (fun e1=>e (kyL_inj hy hx e1)),h.2 y hy]
  have:[x].count y=0:=List.count_eq_zero.2 (by simpa using e)
  simp [List.count_append,this]

def nmA (t:TxnD):Nm:=(t.id,0,0)

def nmB (t:TxnD):Nm:=(0,t.session,t.seq)

def nms (acc:List TxnD):List Nm:=acc.flatMap (fun t=>[nmA t,nmB t])

theorem nms_snoc (acc:List TxnD) (t:TxnD):nms (acc ++ [t])=nms acc ++ [nmA t] ++ [nmB t]:=by
 simp [nms]

theorem nms_len (acc:List TxnD):(nms acc).length=2 * acc.length:=by
 induction acc with
 | nil=>rfl
 | cons a r ih=>
  have:nms (a :: r)=nmA a :: nmB a :: nms r:=rfl
  rw [this]
  simp only [List.length_cons,ih]
  omega

theorem knw_nms {acc:List TxnD} {t:TxnD} (ha:∀ x∈acc,1≤x.id) (ht:1≤t.id):knw acc t=true↔0 < (nms acc).count (nmA t)∨0 < (nms acc).count (nmB t):=by
 rw [List.count_pos_iff,List.count_pos_iff]
 unfold knw nms stF
 rw [List.any_eq_true]
 constructor
 ·rintro ⟨x,hx,h⟩
  simp only [Bool.or_eq_true,Bool.and_eq_true,beq_iff_eq] at h
  rcases h with h | ⟨h1,h2⟩
  ·exact Or.inl (List.mem_flatMap.2 ⟨x,hx,by simp [nmA,h]⟩)
  ·exact Or.inr (List.mem_flatMap.2 ⟨x,hx,by simp [nmB,h1,h2]⟩)
 ·rintro (h | h)
  ·obtain ⟨x,hx,h⟩:=List.mem_flatMap.1 h
   have hx1:=ha x hx
   simp only [nmA,nmB,List.mem_cons,Prod.mk.injEq,List.not_mem_nil,or_false] at h
   rcases h with h | h
   ·exact ⟨x,hx,by simp [h.1]⟩
   ·omega
  ·obtain ⟨x,hx,h⟩:=List.mem_flatMap.1 h
   have hx1:=ha x hx
   simp only [nmA,nmB,List.mem_cons,Prod.mk.injEq,List.not_mem_nil,or_false] at h
   rcases h with h | h
   ·omega
   ·exact ⟨x,hx,by simp [h.2.1,h.2.2]⟩

end Go.Proofs.YtjjolkihiclopaaGreatDoor
namespace Go.Proofs.YtjjolkihiclopaaGreatDoor
open Go.Maps Go.WideShapes Go.MapKept Go.ChangeMaps Go.ChangeShapes Go.WideElems
set_option maxRecDepth 100000
theorem entry_own {H:Type} {P:Program} {w:World} {t k e:TypeId} {R:Value→Option (DataW H × List MemPlace)} {b n:Nat} {D:DataW H} (h:w.ownsMap P k R b n D) (L:Go.WideMaps.KeyLaw P k)
  (ht:P.underlying t=some (.map k e)) {z:Value} (hz:∀ u:World,(zeroValue e).run P u=.ok z u) {zd:DataW H} {zp:List MemPlace} (hzd:R z=some (zd,zp)) (hn:n < maxLen)
  {key:Value} {kl:Lit} (hkey:keyOf P k key=some kl) :
  ∃ (v0:Value) (st:Nat) (w1:World) (D1:DataW H),(Instr.mapEntry t (.map (some b)) key).run P w=.ok (.tuple #[v0,goInt st]) w1∧w.mapTurned w1 b ∧
   w1.ownsMap P k R b (n + 1) D1∧D1.atKey kl zd=D.atKey kl zd ∧
   ∀ (w2:World) (val:Value) (d:DataW H) (ps:List MemPlace),w2.heap[b]? = w1.heap[b]? → R val=some (d,ps) →
    ∃ w3,(Instr.entryStore t (.map (some b)) (goInt st) val).run P w2=.ok () w3∧w3.ownsMap P k R b (n + 1) (D.put kl d)∧w2.mapTurned w3 b:=by
 have K:Keyed P k:=Keyed.of_law L
 have h0:=h
 obtain ⟨es,clock,hb,F,hs,hD⟩:=h
 obtain ⟨v0,st,es1,clock1,hr,hv,hst⟩:=entry_then_store L ht hz hb F hkey
 have hsame:(setBlock w b (.map es1 clock1)).heap[b]? = some (.map es1 clock1):=heap_setBlock_same hb _
 have hmid:∃ D1,(setBlock w b (.map es1 clock1)).ownsMap P k R b (n + 1) D1∧D1.atKey kl zd=D.atKey kl zd:=by
  rcases K.find w hkey es.toList F.keys with ⟨h1,h2⟩ | ⟨j,e0,h1,h2,h3⟩
  ·obtain ⟨w',hrun,hown,_⟩:=h0.store K ht hn hkey hzd
   have e1:(Instr.mapEntry t (.map (some b)) key).run P w=.ok (.tuple #[z,goInt clock]) (setBlock w b (.map (es.push ⟨key,z,clock⟩) (clock + 1))):=by
    simp [Instr.mapEntry,run_underlying ht,MapKept.run_getObj_map hb,K.check w false hkey,h1,hz,MapKept.run_setObj_map _ hb,Result.andThen,setBlock]
   have e2:(Instr.mapUpdate t (.map (some b)) key z).run P w=.ok () (setBlock w b (.map (es.push ⟨key,z,clock⟩) (clock + 1))):=by
    simp [Instr.mapUpdate,run_underlying ht,MapKept.run_getObj_map hb,K.check w false hkey,h1,MapKept.run_setObj_map _ hb,Result.andThen,setBlock]
   rw [e1] at hr
   rw [e2] at hrun
   simp only [Result.ok.injEq,true_and] at hrun hr
   rw [← hr.2,hrun]
   refine ⟨_,hown,?_⟩
   rw [atKey_put_same h0.isMap (K.key hkey)]
   have hw0:(zeroValue e).run P w=.ok z w:=hz w
   rcases fit_look false K ht hw0 hb F hkey with ⟨_,_,hat⟩ | ⟨e0,y,hm0,hk0,_⟩
   ·rw [hD,hat zd]
   ·exact absurd hk0 (h2 e0 hm0)
  ·have hj:es[j]? = some e0:=by simpa using h2
   have hss:es.modify j (fun e=>{ e with key:=key })=es:=by
    apply Array.ext'
    rw [Array.toList_modify,modify_eq_set _ _ _ _ h2]
    have:({ e0 with key:=key }:MapEntry)=e0:=by rw [← h3]
    rw [this]
    exact set_self _ _ _ h2
   have e1:(Instr.mapEntry t (.map (some b)) key).run P w=.ok (.tuple #[e0.val,goInt e0.born]) (setBlock w b (.map es clock)):=by
    simp [Instr.mapEntry,run_underlying ht,MapKept.run_getObj_map hb,K.check w false hkey,h1,hj,h3,L.stays w hkey,hss,MapKept.run_setObj_map _ hb,Result.andThen,setBlock]
   rw [e1] at hr
   simp only [Result.ok.injEq] at hr
   rw [← hr.2]
   exact ⟨D,⟨es,clock,heap_setBlock_same hb _,F,by omega,hD⟩,rfl⟩
 obtain ⟨D1,hown1,hat1⟩:=hmid
 refine ⟨v0,st,_,D1,hr,⟨es,clock,es1,clock1,hb,rfl⟩,hown1,hat1,fun w2 val d ps h2 hval=>?_⟩
 have h2' := h2.trans hsame
 obtain ⟨es',clock',hrs,hru⟩:=hst w2 val h2'
 obtain ⟨w',hrun,hown,_⟩:=h0.store K ht hn hkey hval
 rw [hru] at hrun
 simp only [Result.ok.injEq,true_and] at hrun
 refine ⟨_,hrs,?_,⟨es1,clock1,es',clock',h2',rfl⟩⟩
 rw [← hrun] at hown
 obtain ⟨esx,cx,hbx,rest⟩:=hown
 have e3:(setBlock w b (.map es' clock')).heap[b]? = (setBlock w2 b (.map es' clock')).heap[b]? := by
  rw [heap_setBlock_same hb,heap_setBlock_same h2']
 exact ⟨esx,cx,e3 ▸ hbx,rest⟩

end Go.Proofs.YtjjolkihiclopaaGreatDoor
namespace Go.Proofs.YtjjolkihiclopaaGreatDoor
open Go.RowKit Go.Maps
set_option maxRecDepth 100000
/-- Block b is a map that counts the names of ns. -/
def Cts (w:World) (b:Nat) (ns:List Nm):Prop:=∃ D:DataW Unit,w.ownsMap Tryz.prog 89 (plainElem Tryz.prog 2) b ns.length D∧Cnt D ns

theorem keyLNm:Go.WideMaps.KeyLaw Tryz.prog 89:=deep_law_laid laidP (m:=2) (by omega) rowNm (by kernel_rfl) wideNm

theorem zero64 (u:World):(zeroValue 2).run Tryz.prog u=.ok (.int .i64 0) u:=by
 kernel_rfl

theorem Cts.made (w:World):Cts (w.alloc (.map #[] 0)) w.heap.size []:=⟨_,World.ownsMap_made w _ _ _,Cnt.none⟩

theorem Cts.lt {w:World} {b:Nat} {ns:List Nm} (h:Cts w b ns):b < w.heap.size:=by
 obtain ⟨D,h,_⟩:=h
 exact h.lt

theorem Cts.kept {w w' : World} {b:Nat} {ns:List Nm} {row:Option Nat} (h:Cts w b ns) (hg:w.grownBy w' row) (hne:some b≠row):Cts w' b ns:=by
 obtain ⟨D,h,hc⟩:=h
 exact ⟨D,h.kept hg hne,hc⟩

theorem Cts.look {w:World} {b:Nat} {ns:List Nm} (h:Cts w b ns) {x:Nm} (hx:nmW x):(Instr.lookup 87 (.map (some b)) (nmV x) false).run Tryz.prog w=.ok (.int .i64 (ns.count x)) w:=by
 obtain ⟨D,h,hc⟩:=h
 obtain ⟨c,hr,hat,_⟩:=h.lookup_int lawNm Tryz.underlying87 Tryz.underlying2 (zero64 w) (kyL_key hx)
 rw [hc.2 x hx] at hat
 simp only [DataW.lit.injEq,Lit.int.injEq,true_and] at hat
 rw [hr,hat]

theorem Cts.inc {w:World} {b:Nat} {ns:List Nm} (h:Cts w b ns) {x:Nm} (hx:nmW x) (hl:ns.length < 1000) :
  ∃ (v0:Value) (st:Nat) (w1 w3:World),(Instr.mapEntry 87 (.map (some b)) (nmV x)).run Tryz.prog w=.ok (.tuple #[v0,.int .i64 st]) w1 ∧
   (Instr.lookup 87 (.map (some b)) (nmV x) false).run Tryz.prog w1=.ok (.int .i64 (ns.count x)) w1 ∧
   (Instr.entryStore 87 (.map (some b)) (.int .i64 st) (.int .i64 ((ns.count x:Int) + 1))).run Tryz.prog w1=.ok () w3∧w.mapTurned w1 b∧w.mapTurned w3 b∧Cts w3 b (ns ++ [x]):=by
 obtain ⟨D,h,hc⟩:=h
 have hle:ns.count x≤ns.length:=List.count_le_length
 have w0:(Lit.int .i64 0).wf=true:=by decide
 have wc:(Lit.int .i64 ((ns.count x:Int) + 1)).wf=true:=WalkArith.wf_i64 (by omega)
 obtain ⟨v0,st,w1,D1,hr,ht1,ho1,hat1,hst⟩:=entry_own h keyLNm Tryz.underlying87 zero64 (plainElem_int Tryz.underlying2 w0) (by unfold maxLen;omega) (kyL_key hx)
 obtain ⟨w3,hr3,ho3,ht3⟩:=hst w1 _ _ _ rfl (plainElem_int Tryz.underlying2 wc)
 obtain ⟨c,hrl,hat,_⟩:=ho1.lookup_int lawNm Tryz.underlying87 Tryz.underlying2 (zero64 w1) (kyL_key hx)
 rw [hat1,hc.2 x hx] at hat
 simp only [DataW.lit.injEq,Lit.int.injEq,true_and] at hat
 refine ⟨v0,st,w1,w3,hr,by rw [hrl,hat],hr3,ht1,ht1.trans ht3,⟨_,?_,hc.put hx⟩⟩
 rw [List.length_append]
 exact ho3

end Go.Proofs.YtjjolkihiclopaaGreatDoor
namespace Go.Proofs.YtjjolkihiclopaaGreatDoor
open Go.RowKit
set_option maxRecDepth 100000
section
variable {P:Type} {K:Kind P} {w w' : World} {a:Option Addr} {n cap:Nat} {ps:List P}
theorem Kind.At.takeK (h:K.At w (.slice a n cap) ps) (m:Nat) (hm:m≤ps.length):K.At w (.slice a m cap) (ps.take m):=by
 obtain ⟨a',c,e,hl,hr⟩:=h
 simp only [Value.slice.injEq] at e
 obtain ⟨rfl,_,rfl⟩:=e
 refine ⟨a,cap,by rw [List.length_take,Nat.min_eq_left hm],?_,fun p hp=>hr p (List.mem_of_mem_take hp)⟩
 have er:K.row ps=K.row (ps.take m) ++ K.row (ps.drop m):=by
  unfold Kind.row
  rw [← List.flatMap_append,List.take_append_drop]
 rcases hl with h0 | ⟨b,off,ha,hlt,hc⟩
 ·left
  rw [er] at h0
  exact (List.append_eq_nil_iff.1 h0).1
 ·right
  refine ⟨b,off,ha,hlt,fun j x hx=>hc j x ?_⟩
  rw [er,List.getElem?_append_left (List.getElem?_eq_some_iff.1 hx).1]
  exact hx

theorem Kind.Own.capK (h:K.Own w (.slice a n cap) ps):n≤cap∧cap≤maxLen:=by
 rcases h.1.2 with ⟨e,_⟩ | ⟨g,c,cur,e,_,_,h1,h2,_⟩
 ·simp only [Value.slice.injEq] at e
  obtain ⟨_,rfl,rfl⟩:=e
  exact ⟨Nat.le_refl _,by decide⟩
 ·simp only [Value.slice.injEq] at e
  obtain ⟨_,rfl,rfl⟩:=e
  exact ⟨h1,h2⟩

theorem Kind.At.nilA (w:World) (a:Option Addr) (c' : Nat):K.At w (.slice a 0 c') ([]:List P):=⟨a,c',rfl,Or.inl rfl,fun p hp=>by simp at hp⟩

theorem Kind.At.dropS (h:K.At w (.slice a n cap) ps) (m:Nat) (hm:m≤ps.length) (hcap:ps.length≤cap) (c' : Nat):K.At w (.slice (if cap=m then a else a.map (·.add (m * K.size))) (ps.drop m).length c') (ps.drop m):=by
 by_cases hc:cap=m
 ·have hp:ps.drop m=[]:=List.drop_of_length_le (by omega)
  rw [if_pos hc,hp]
  exact Kind.At.nilA w a c'
 ·rw [if_neg hc]
  cases a with
  | none=>
   obtain ⟨a',c,e,hl,hr⟩:=h
   simp only [Value.slice.injEq] at e
   obtain ⟨rfl,_,rfl⟩:=e
   rcases hl with h0 | ⟨b',off',ha,_⟩
   ·refine ⟨none,c',rfl,Or.inl ?_,fun p hp=>hr p (List.mem_of_mem_drop hp)⟩
    have er:K.row ps=K.row (ps.take m) ++ K.row (ps.drop m):=by
     unfold Kind.row
     rw [← List.flatMap_append,List.take_append_drop]
    rw [er] at h0
    exact (List.append_eq_nil_iff.1 h0).2
   ·simp at ha
  | some x=>
   obtain ⟨a',c,e,hl,hr⟩:=h
   simp only [Value.slice.injEq] at e
   obtain ⟨rfl,_,rfl⟩:=e
   refine ⟨_,c',rfl,?_,fun p hp=>hr p (List.mem_of_mem_drop hp)⟩
   have er:K.row ps=K.row (ps.take m) ++ K.row (ps.drop m):=by
    unfold Kind.row
    rw [← List.flatMap_append,List.take_append_drop]
   have hlen:(K.row (ps.take m)).length=m * K.size:=by rw [Kind.row_length,List.length_take,Nat.min_eq_left hm]
   rcases hl with h0 | ⟨b',off',ha,hlt,hc⟩
   ·left
    rw [er] at h0
    exact (List.append_eq_nil_iff.1 h0).2
   ·right
    simp only [Option.some.injEq] at ha
    subst ha
    refine ⟨b',off' + m * K.size,by simp [Addr.add],hlt,fun j y hy=>?_⟩
    have h2:=hc (m * K.size + j) y (by rw [er,List.getElem?_append_right (by omega),hlen,show m * K.size + j - m * K.size=j by omega];exact hy)
    rw [← Nat.add_assoc] at h2
    exact h2

/-- A row of one's own whose elements are read elsewhere. -/
theorem Kind.at_of_row {v:Value} {base e:Nat} (h:w.ownsRow base e K.size v ps.length (K.row ps)) (hr:∀ p∈ps,K.rd w p):K.At w v ps:=by
 obtain ⟨a,c,rfl⟩:=own_shape h
 exact ⟨a,c,rfl,Lies.own h,hr⟩

end
/-- What goes with a slice: how long it may be. -/
def CapOk:Value→Prop
 | .slice _ n c=>n≤c∧c≤maxLen
 | _=>False

theorem Kind.Own.capOk {P:Type} {K:Kind P} {w:World} {v:Value} {ps:List P} (h:K.Own w v ps):CapOk v:=by
 obtain ⟨a,c,rfl⟩:=h.shape
 exact h.capK

end Go.Proofs.YtjjolkihiclopaaGreatDoor
